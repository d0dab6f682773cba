/- PROVED: the law FnExactMeanLevels returns true for every input, and each of its arguments reads afterwards as before. No conditions. -/
import Derived.Test.YtlmkmclmfkphbaaRows
import Derived.WalkKit
import Derived.WalkSpells
import Derived.WalkLawsBesides
import Derived.Deep.QuietTactic
import Derived.BigQuiet
import Derived.ProofKit
import Derived.OpenShut
import Derived.ShutString
import Derived.ChangeOld
import Derived.Below
import Derived.Lib.SmallJoins
import Derived.Lib.Hide
import Derived.Deep.RegionHeld3
import Derived.Lib.SlicesCompact
import Derived.Shelf.Small.Bits
import Derived.Shelf.Small.Wraps
import Derived.Shelf.Strconv.Itoa0
import Derived.Shelf.Sort.Plain
import Derived.Shelf.Slices.Clone
import Derived.Shelf.Slices.CompactI
import Derived.Shelf.Slices.SearchI
import Derived.Shelf.Slices.Cells
import Derived.Shelf.Slices.In.SortNone
import Derived.Shelf.SlicesE.Clone
import Derived.Shelf.SlSortCmp.Insertion
import Derived.Shelf.SlSortCmp.SiftDown1
import Derived.Shelf.SlSortCmp.HeapSort1
import Derived.Shelf.SlSortCmp.Insertion1
import Derived.Shelf.SlSortCmp.Median1
import Derived.Shelf.SlSortCmp.Pivot1
import Derived.Shelf.SlSortCmp.ReverseRange1
import Derived.Shelf.SlSortCmp.PartialInsertion1
import Derived.Shelf.SlSortCmp.PartitionEqual1
import Derived.Shelf.SlSortCmp.Partition1
import Derived.Shelf.SlSortCmp.Pdq1
import Derived.Shelf.SlSortCmp.Whole1
import Derived.Shelf.SlSortCmp.NoneTotal
import Derived.Sort.OwnSortedInts
import Derived.Lib.RowBridge
import Derived.Lib.SliceRun
import Derived.Deep.Matrix
namespace Go.Proofs.Ytlmkmclmfkphbaa.meanLevels
open Go Go.RowKit
set_option linter.unusedVariables false
set_option linter.unusedSimpArgs false
set_option maxHeartbeats 400000
open Go.Shelf


/-- a number of a list; a plain function, which the walk leaves alone -/
def nth (xs : List Int) (k : Nat) : Int := xs.getD k 0
theorem nth_get (xs : List Int) (k : Nat) (h : k < xs.length) : nth xs k = xs[k] := by simp [nth, h]
/-- the slice at an address reads as a list -/
structure Rd (w : World) (a : Option Addr) (xs : List Int) : Prop where
  len : xs.length ≤ 9223372036854775807
  cell : ∀ k, k < xs.length → ∃ b off, a = some ⟨b, off, none⟩ ∧ b < w.heap.size ∧ w.cell? ⟨b, off + k, none⟩ = some (.int .i64 (nth xs k))
theorem Rd.below {w w' : World} {a : Option Addr} {xs : List Int} (h : Rd w a xs) (hb : Below w.heap.size w w') : Rd w' a xs :=
  ⟨h.len, fun k hk => by
    obtain ⟨b, off, e, hl, hc⟩ := h.cell k hk
    exact ⟨b, off, e, Nat.lt_of_lt_of_le hl hb.size, (hb.cell (World.block_lt_of_cell? _ _ hc)).trans hc⟩⟩
theorem Rd.mid {w w1 w2 : World} {a : Option Addr} {xs : List Int} {B : Nat} (h : Rd w a xs) (hb : Below B w1 w2) (hB : w.heap.size ≤ B) (h1 : Rd w1 a xs) : Rd w2 a xs :=
  ⟨h.len, fun k hk => by
    obtain ⟨b, off, e, hl, hc⟩ := h.cell k hk
    obtain ⟨b', off', e', hl', hc'⟩ := h1.cell k hk
    rw [e] at e'
    simp only [Option.some.injEq, Addr.mk.injEq, and_true] at e'
    obtain ⟨rfl, rfl⟩ := e'
    exact ⟨b, off, e, Nat.lt_of_lt_of_le hl' hb.size, (hb.cell (by show b < B; omega)).trans hc'⟩⟩
theorem Rd.alloc {w : World} {a : Option Addr} {xs : List Int} (h : Rd w a xs) (o : Obj) : Rd (w.alloc o) a xs :=
  h.below ((Below.refl _ _).alloc (Nat.le_refl _) o)
theorem Rd.same {w w' : World} {a : Option Addr} {xs : List Int} (h : Rd w a xs) (hs : w.heap.size ≤ w'.heap.size)
    (hb : ∀ b off, a = some ⟨b, off, none⟩ → w'.heap[b]? = w.heap[b]?) : Rd w' a xs :=
  ⟨h.len, fun k hk => by
    obtain ⟨b, off, e, hl, hc⟩ := h.cell k hk
    exact ⟨b, off, e, Nat.lt_of_lt_of_le hl hs, (World.cell?_of_block (w := w) (a := ⟨b, off + k, none⟩) (hb b off e)).trans hc⟩⟩
/-- a slice value that owns the row of these integers, in a block from B on -/
def OwnI (w : World) (B : Nat) (v : Value) (xs : List Int) : Prop := w.ownsRow B 3 1 v xs.length (xs.map (Value.int .i64))
theorem OwnI.form {w : World} {B : Nat} {v : Value} {xs : List Int} (h : OwnI w B v xs) : ∃ a cap, v = .slice a xs.length cap := by
  rcases h.2 with ⟨rfl, h0⟩ | ⟨g, cap, cur, rfl, _⟩
  · exact ⟨none, 0, by rw [h0]⟩
  · exact ⟨_, _, rfl⟩
theorem OwnI.rd {w : World} {B n cap : Nat} {a : Option Addr} {xs : List Int} (h : OwnI w B (.slice a n cap) xs) : Rd w a xs := by
  rcases h.2 with ⟨e, h0⟩ | ⟨g, cap', cur, e, hb, hg, hn, hm, hs, ht⟩
  · exact ⟨by omega, fun k hk => by omega⟩
  · simp only [Value.slice.injEq] at e
    obtain ⟨rfl, rfl, rfl⟩ := e
    refine ⟨by unfold maxLen at hm; omega, fun k hk => ⟨g, 0, rfl, (Array.getElem?_eq_some_iff.1 hg).1, ?_⟩⟩
    have := World.ownsRow.cellAt h k (by omega)
    rw [Nat.zero_add, this]
    simp [nth, hk]
theorem OwnI.blk {w : World} {B n cap : Nat} {a : Option Addr} {xs : List Int} (h : OwnI w B (.slice a n cap) xs) : ∀ b off s, a = some ⟨b, off, s⟩ → B ≤ b ∧ b < w.heap.size := by
  intro b off s e
  subst e
  exact World.ownsRow.lt h b rfl
theorem OwnI.kept {w w' : World} {B : Nat} {v : Value} {xs : List Int} {row : Option Nat} (h : OwnI w B v xs) (hg : w.grownBy w' row) (hne : v.ownBlock = none ∨ v.ownBlock ≠ row) : OwnI w' B v xs := World.ownsRow.kept h hg hne
theorem OwnI.mono {w : World} {B B' : Nat} {v : Value} {xs : List Int} (h : OwnI w B v xs) (hB : B' ≤ B) : OwnI w B' v xs := by
  refine ⟨h.1, ?_⟩
  rcases h.2 with hn | ⟨g, cap, cur, e, hb, rest⟩
  · exact .inl hn
  · exact .inr ⟨g, cap, cur, e, by omega, rest⟩
theorem OwnI.below {w w' : World} {B B' : Nat} {v : Value} {xs : List Int} (h : OwnI w B v xs) (hb : Below B' w w') (hB : w.heap.size ≤ B') : OwnI w' B v xs := by
  refine ⟨h.1, ?_⟩
  rcases h.2 with hn | ⟨g, cap, cur, e, hb', hg, rest⟩
  · exact .inl hn
  · refine .inr ⟨g, cap, cur, e, hb', ?_, rest⟩
    rw [hb.block g (by have := (Array.getElem?_eq_some_iff.1 hg).1; omega)]
    exact hg
theorem ret_bool {a b : Bool} (h : a = b) : Ending.returned (.bool a) = .returned (.bool b) := by rw [h]
theorem ret_int {a b : Int} (h : a = b) : Ending.returned (.int .i64 a) = .returned (.int .i64 b) := by rw [h]
theorem val_int {a b : Int} (h : a = b) : Value.int .i64 a = .int .i64 b := by rw [h]
theorem grown_below {w w' : World} {g : Nat} (h : w.grownBy w' (some g)) (B : Nat) (hB : B ≤ g) (hs : B ≤ w.heap.size) : Below B w w' :=
  ⟨h.os, h.tape, h.output, h.size, fun k hk => h.block k (by omega) (by intro e; simp only [Option.some.injEq] at e; omega)⟩
theorem below_grown {w w' : World} {B : Nat} (h : Below B w w') (hB : w.heap.size ≤ B) (row : Option Nat) : w.grownBy w' row :=
  ⟨h.os, h.tape, h.output, h.size, fun k hk _ => h.block k (by omega)⟩
theorem bcell {W w1 : World} (hb : Below W.heap.size W w1) : (∀ b o, b < W.heap.size → w1.cell? ⟨b, o, none⟩ = W.cell? ⟨b, o, none⟩) ∧ (∀ b o, b < W.heap.size → w1.frozen? ⟨b, o, none⟩ = W.frozen? ⟨b, o, none⟩) :=
  ⟨fun b o h => hb.cell (p := ⟨b, o, none⟩) h, fun b o h => hb.frozen (p := ⟨b, o, none⟩) h⟩
theorem infoInt : (Try.prog.info? 3).map (fun i => (i.zero, i.size, i.bytes)) = some (some (.int .i64 0), 1, 8) := by kernel_rfl
theorem OwnI.setBelow {w : World} {B : Nat} {v : Value} {xs : List Int} (h : OwnI w B v xs) {p : Addr} (hp : p.block < B) (u : Value) : OwnI (w.setCell p u) B v xs := ownsRow_setCell_below h hp u
theorem OwnI.alloc {w : World} {B : Nat} {v : Value} {xs : List Int} (h : OwnI w B v xs) (o : Obj) : OwnI (w.alloc o) B v xs := h.below ((Below.refl _ _).alloc (Nat.le_refl _) o) (Nat.le_refl _)
theorem Below.mono' {B B' : Nat} {w w' : World} (h : Below B w w') (hB : B' ≤ B) : Below B' w w' := h.mono hB
/-- a block that holds two cells -/
def Box2 (w : World) (b : Nat) (u v : Value) : Prop := b < w.heap.size ∧ w.cell? ⟨b, 0, none⟩ = some u ∧ w.cell? ⟨b, 1, none⟩ = some v
theorem Box2.below {w w' : World} {b : Nat} {u v : Value} (h : Box2 w b u v) (hb : Below w.heap.size w w') : Box2 w' b u v :=
  ⟨Nat.lt_of_lt_of_le h.1 hb.size, (hb.cell (p := ⟨b, 0, none⟩) h.1).trans h.2.1, (hb.cell (p := ⟨b, 1, none⟩) h.1).trans h.2.2⟩
theorem Box2.new (w : World) (u v : Value) (t : TypeId) : Box2 (w.alloc (.cells #[u, v] t)) w.heap.size u v :=
  ⟨by simp, by simp, by simp⟩
theorem Box2.kept {w w' : World} {b : Nat} {u v : Value} {row : Option Nat} (h : Box2 w b u v) (hg : w.grownBy w' row) (hne : some b ≠ row) : Box2 w' b u v :=
  ⟨Nat.lt_of_lt_of_le h.1 hg.size, hg.cell h.2.1 hne, hg.cell h.2.2 hne⟩
theorem OwnI.lt {w : World} {B : Nat} {v : Value} {xs : List Int} (h : OwnI w B v xs) : ∀ b, v.ownBlock = some b → B ≤ b ∧ b < w.heap.size := World.ownsRow.lt h
theorem OwnI.cut {w : World} {B : Nat} {v : Value} {xs : List Int} (h : OwnI w B v xs) {U : Nat} (hU : w.heap.size ≤ U) : ∀ b, v.ownBlock = some b → B ≤ b ∧ b < U := fun b e => ⟨(h.lt b e).1, Nat.lt_of_lt_of_le (h.lt b e).2 hU⟩
/-- a block of two cells that may be written -/
def Var2 (w : World) (b : Nat) (u v : Value) : Prop := Box2 w b u v ∧ w.frozen? ⟨b, 0, none⟩ = false ∧ w.frozen? ⟨b, 1, none⟩ = false
theorem Var2.below {w w' : World} {b : Nat} {u v : Value} (h : Var2 w b u v) (hb : Below w.heap.size w w') : Var2 w' b u v :=
  ⟨h.1.below hb, (hb.frozen (p := ⟨b, 0, none⟩) h.1.1).trans h.2.1, (hb.frozen (p := ⟨b, 1, none⟩) h.1.1).trans h.2.2⟩
theorem Var2.new (w : World) (u v : Value) (t : TypeId) : Var2 (w.alloc (.cells #[u, v] t)) w.heap.size u v :=
  ⟨Box2.new w u v t, by simp, by simp⟩
theorem Var2.alloc {w : World} {b : Nat} {u v : Value} (h : Var2 w b u v) (o : Obj) : Var2 (w.alloc o) b u v := h.below ((Below.refl _ _).alloc (Nat.le_refl _) o)
theorem Var2.kept {w w' : World} {b : Nat} {u v : Value} {row : Option Nat} (h : Var2 w b u v) (hg : w.grownBy w' row) (hne : some b ≠ row) : Var2 w' b u v :=
  ⟨h.1.kept hg hne, (World.frozen?_of_block (w := w) (a := ⟨b, 0, none⟩) (hg.block b h.1.1 hne)).trans h.2.1, (World.frozen?_of_block (w := w) (a := ⟨b, 1, none⟩) (hg.block b h.1.1 hne)).trans h.2.2⟩
theorem Var2.set {w : World} {b : Nat} {u v : Value} (h : Var2 w b u v) (u' v' : Value) : Var2 ((w.setCell ⟨b, 0, none⟩ u').setCell ⟨b, 1, none⟩ v') b u' v' := by
  refine ⟨⟨by simpa using h.1.1, ?_, ?_⟩, by simpa using h.2.1, by simpa using h.2.2⟩
  · rw [World.cell?_setCell_other _ _ _ _ (by simp), World.cell?_setCell_same _ _ _ h.1.2.1]
  · rw [World.cell?_setCell_same _ _ _ (u := v) (by rw [World.cell?_setCell_other _ _ _ _ (by simp)]; exact h.1.2.2)]
theorem grown_set (w : World) (p : Addr) (u : Value) : w.grownBy (w.setCell p u) (some p.block) :=
  ⟨rfl, rfl, rfl, by simp, fun k hk hn => Below.heap_setCell w p u k (fun e => hn (by rw [e]))⟩
theorem Var2.set1 {w : World} {b : Nat} {u v : Value} (h : Var2 w b u v) (v' : Value) : Var2 (w.setCell ⟨b, 1, none⟩ v') b u v' := by
  refine ⟨⟨by simpa using h.1.1, ?_, ?_⟩, by simpa using h.2.1, by simpa using h.2.2⟩
  · rw [World.cell?_setCell_other _ _ _ _ (by simp)]; exact h.1.2.1
  · rw [World.cell?_setCell_same _ _ _ h.1.2.2]
theorem Box2.set {w : World} {b : Nat} {u v : Value} (h : Box2 w b u v) {p : Addr} (x : Value) (hne : b ≠ p.block) : Box2 (w.setCell p x) b u v :=
  h.kept (grown_set w p x) (by simpa using hne)
theorem Var2.other {w : World} {b : Nat} {u v : Value} (h : Var2 w b u v) {p : Addr} (x : Value) (hne : b ≠ p.block) : Var2 (w.setCell p x) b u v :=
  h.kept (grown_set w p x) (by simpa using hne)
theorem ne_own {v : Value} {b : Nat} (h : ∀ c, v.ownBlock = some c → c ≠ b) : some b ≠ v.ownBlock := fun e => h b e.symm rfl
theorem grown_alloc_set {w w1 : World} {r : Option Nat} {o : Obj} (h : (w.alloc o).grownBy w1 r) : w.grownBy w1 r :=
  ⟨h.os, h.tape, h.output, by have := h.size; simp at this; omega, fun k hk hn => (h.block k (by simp; omega) hn).trans (Below.heap_alloc w o k hk)⟩
theorem grown_trans {w w1 w2 : World} {r : Option Nat} (h1 : w.grownBy w1 r) (h2 : w1.grownBy w2 r) : w.grownBy w2 r :=
  ⟨h2.os.trans h1.os, h2.tape.trans h1.tape, h2.output.trans h1.output, Nat.le_trans h1.size h2.size, fun k hk hn => (h2.block k (by have := h1.size; omega) hn).trans (h1.block k hk hn)⟩
theorem OwnI.nil (w : World) (B : Nat) : OwnI w B (.slice none 0 0) [] := World.ownsRow_nil _ _ _ _
theorem below_of_grown {w w' : World} {v : Value} {B : Nat} (hg : w.grownBy w' v.ownBlock) (hB : ∀ b, v.ownBlock = some b → B ≤ b) (hs : B ≤ w.heap.size) : Below B w w' :=
  ⟨hg.os, hg.tape, hg.output, hg.size, fun k hk => hg.block k (by omega) (fun e => by have := hB k e.symm; omega)⟩

/-- a row of a list of rows -/
def rowL (xss : List (List Int)) (k : Nat) : List Int := xss.getD k []
/-- how many numbers the first k rows have -/
def totS (xss : List (List Int)) : Nat → Nat
  | 0 => 0
  | k+1 => totS xss k + (rowL xss k).length
theorem totS_mono {xss : List (List Int)} {j : Nat} : ∀ {k : Nat}, j ≤ k → totS xss j ≤ totS xss k
  | 0, h => by obtain rfl : j = 0 := by omega
               exact Nat.le_refl _
  | k+1, h => by
    by_cases e : j = k + 1
    · rw [e]; exact Nat.le_refl _
    · have := totS_mono (xss := xss) (j := j) (k := k) (by omega)
      simp only [totS]; omega
theorem row_tot {xss : List (List Int)} {k n : Nat} (h : k < n) : (rowL xss k).length ≤ totS xss n := by
  have := totS_mono (xss := xss) (j := k + 1) (k := n) (by omega)
  simp only [totS] at this
  omega
/-- the slice of slices at an address reads as a list of rows -/
structure RdS (w : World) (a : Option Addr) (xss : List (List Int)) : Prop where
  len : xss.length ≤ 9223372036854775807
  row : ∀ k, k < xss.length → ∃ b off a' cap', a = some ⟨b, off, none⟩ ∧ b < w.heap.size ∧ w.cell? ⟨b, off + k, none⟩ = some (.slice a' (rowL xss k).length cap') ∧ Rd w a' (rowL xss k)
theorem RdS.below {w w' : World} {a : Option Addr} {xss : List (List Int)} (h : RdS w a xss) (hb : Below w.heap.size w w') : RdS w' a xss :=
  ⟨h.len, fun k hk => by
    obtain ⟨b, off, a', cap', e, hl, hc, hr⟩ := h.row k hk
    exact ⟨b, off, a', cap', e, Nat.lt_of_lt_of_le hl hb.size, (hb.cell (World.block_lt_of_cell? _ _ hc)).trans hc, hr.below hb⟩⟩
theorem ownsRow_bel {w w' : World} {B B' : Nat} {e : TypeId} {size : Nat} {v : Value} {n : Nat} {xs : List Value} (h : w.ownsRow B e size v n xs) (hb : Below B' w w') (hB : w.heap.size ≤ B') : w'.ownsRow B e size v n xs := by
  refine ⟨h.1, ?_⟩
  rcases h.2 with hn | ⟨g, cap, cur, e, hb', hg, rest⟩
  · exact .inl hn
  · refine .inr ⟨g, cap, cur, e, hb', ?_, rest⟩
    rw [hb.block g (by have := (Array.getElem?_eq_some_iff.1 hg).1; omega)]
    exact hg
def valAt (vl : List Value) (k : Nat) : Value := vl.getD k (.slice none 0 0)
/-- a slice of slices that owns its rows: the outer block is g -/
structure OwnS (w : World) (B g : Nat) (vl : List Value) (xss : List (List Int)) : Prop where
  lo : B ≤ g
  hi : g < w.heap.size
  max : xss.length ≤ 9223372036854775807
  cell : ∀ k, k < xss.length → w.cell? ⟨g, k, none⟩ = some (valAt vl k)
  row : ∀ k, k < xss.length → OwnI w (g + 1) (valAt vl k) (rowL xss k)
  apart : ∀ j k, j < k → k < xss.length → ∀ c d, (valAt vl j).ownBlock = some c → (valAt vl k).ownBlock = some d → c < d
theorem OwnS.rd {w : World} {B g : Nat} {vl : List Value} {xss : List (List Int)} (h : OwnS w B g vl xss) : RdS w (some ⟨g, 0, none⟩) xss :=
  ⟨h.max, fun k hk => by
    have h1 := h.row k hk
    have h2 := h.cell k hk
    obtain ⟨a', cap', e⟩ := h1.form
    rw [e] at h1 h2
    exact ⟨g, 0, a', cap', rfl, h.hi, by rw [Nat.zero_add]; exact h2, h1.rd⟩⟩
theorem OwnS.below {w w' : World} {B B' g : Nat} {vl : List Value} {xss : List (List Int)} (h : OwnS w B g vl xss) (hb : Below B' w w') (hB : w.heap.size ≤ B') : OwnS w' B g vl xss :=
  ⟨h.lo, Nat.lt_of_lt_of_le h.hi hb.size, h.max, fun k hk => (hb.cell (p := ⟨g, k, none⟩) (Nat.lt_of_lt_of_le h.hi hB)).trans (h.cell k hk), fun k hk => (h.row k hk).below hb hB, h.apart⟩
theorem OwnS.cut {w : World} {B g : Nat} {vl : List Value} {xss : List (List Int)} (h : OwnS w B g vl xss) {U : Nat} (hU : w.heap.size ≤ U) : B ≤ g ∧ ∀ k, k < xss.length → ∀ c, (valAt vl k).ownBlock = some c → g < c ∧ c < U :=
  ⟨h.lo, fun k hk c e => by have := (h.row k hk).lt c e; omega⟩
/-- only blocks of a stretch are written -/
structure TouchS (lo hi : Nat) (w w' : World) : Prop where
  os : w'.os = w.os
  tape : w'.tape = w.tape
  output : w'.output = w.output
  size : w.heap.size ≤ w'.heap.size
  block : ∀ k, k < w.heap.size → k < lo ∨ hi ≤ k → w'.heap[k]? = w.heap[k]?
theorem TouchS.refl (lo hi : Nat) (w : World) : TouchS lo hi w w := ⟨rfl, rfl, rfl, Nat.le_refl _, fun _ _ _ => rfl⟩
theorem TouchS.step {lo hi : Nat} {w w1 w2 : World} {r : Option Nat} (h : TouchS lo hi w w1) (hg : w1.grownBy w2 r) (hr : ∀ c, r = some c → lo ≤ c ∧ c < hi) : TouchS lo hi w w2 :=
  ⟨hg.os.trans h.os, hg.tape.trans h.tape, hg.output.trans h.output, Nat.le_trans h.size hg.size, fun k hk hn => (hg.block k (by have := h.size; omega) (fun e => by have := hr k e.symm; omega)).trans (h.block k hk hn)⟩
theorem TouchS.below {lo hi B : Nat} {w w' : World} (h : TouchS lo hi w w') (hB : B ≤ lo) (hs : B ≤ w.heap.size) : Below B w w' :=
  ⟨h.os, h.tape, h.output, h.size, fun k hk => h.block k (by omega) (by omega)⟩
theorem TouchS.other {lo hi : Nat} {w w' : World} (h : TouchS lo hi w w') (b : Nat) (hb : b < lo ∨ hi ≤ b) (hs : b < w.heap.size) : ∀ r, w'.heap[b]? = w.heap[b]? ∧ (r = some b → True) := fun _ => ⟨h.block b hs hb, fun _ => trivial⟩
theorem Box2.touch {lo hi : Nat} {w w' : World} {b : Nat} {u v : Value} (h : Box2 w b u v) (ht : TouchS lo hi w w') (hb : b < lo ∨ hi ≤ b) : Box2 w' b u v :=
  ⟨Nat.lt_of_lt_of_le h.1 ht.size, (World.cell?_of_block (w := w) (a := ⟨b, 0, none⟩) (ht.block b h.1 hb)).trans h.2.1, (World.cell?_of_block (w := w) (a := ⟨b, 1, none⟩) (ht.block b h.1 hb)).trans h.2.2⟩
theorem OwnI.touch {lo hi : Nat} {w w' : World} {B : Nat} {v : Value} {xs : List Int} (h : OwnI w B v xs) (ht : TouchS lo hi w w') (hb : ∀ c, v.ownBlock = some c → c < lo ∨ hi ≤ c) : OwnI w' B v xs := by
  refine ⟨h.1, ?_⟩
  rcases h.2 with hn | ⟨g, cap, cur, e, hb', hg, rest⟩
  · exact .inl hn
  · refine .inr ⟨g, cap, cur, e, hb', ?_, rest⟩
    rw [ht.block g (Array.getElem?_eq_some_iff.1 hg).1 (hb g (by rw [e]; rfl))]
    exact hg

def szF (left : Int) (n : Nat) : Int := if left - n < 0 then -1 else left - n
theorem szIntS_any (a : Option Addr) (n cap : Nat) (l : Int) (w : World) (h0 : 0 ≤ l) (h1 : l ≤ 1048576) (hn : n ≤ 9223372036854775807) :
    Calls Try.prog 26 #[.slice a n cap, .int .i64 l] w fun e w' => e = .returned (.int .i64 (szF l n)) ∧ w = w' := by
  by_cases h : l - n < 0
  · go_enter Try.func26, Try.ntmps26
    go_wp2
    go_ret
    exact ⟨ret_int (by simp [szF, h]), rfl⟩
  · go_enter Try.func26, Try.ntmps26
    go_wp2
    go_ret
    exact ⟨ret_int (by rw [szF, if_neg (by omega)]), rfl⟩

theorem szIntSS_any (a : Option Addr) (xss : List (List Int)) (cap : Nat) (l : Int) (w : World) (h0 : 0 ≤ l) (h1 : l ≤ 1048576) (hx : RdS w a xss) :
    Calls Try.prog 6 #[.slice a xss.length cap, .int .i64 l] w fun e w' => (∃ r : Int, e = .returned (.int .i64 r) ∧ ((l < ((xss.length + totS xss xss.length : Nat) : Int) ∧ r = -1) ∨ (((xss.length + totS xss xss.length : Nat) : Int) ≤ l ∧ r = l - ((xss.length + totS xss xss.length : Nat) : Int)))) ∧ w = w' := by
  have hlen := hx.len
  by_cases hl : l - (xss.length : Int) < 0
  · go_enter Try.func6, Try.ntmps6
    go_wp2_with fail
    go_ret
    exact ⟨⟨_, rfl, .inl ⟨by omega, rfl⟩⟩, rfl⟩
  · go_enter Try.func6, Try.ntmps6
    go_wp2_with fail
    go_loop [1, 5] (fun s i => ∃ k : Nat, k ≤ xss.length ∧ i = .int .i64 k ∧ s = .int .i64 (l - (xss.length : Int) - ((totS xss k : Nat) : Int)) ∧ 0 ≤ l - (xss.length : Int) - ((totS xss k : Nat) : Int)) (fun _ i => xss.length - (intOf i).toNat)
    case atStart => exact ⟨0, Nat.zero_le _, rfl, by simp [totS], by simp [totS]; omega⟩
    case round =>
      obtain ⟨k, hk, rfl, rfl, hp⟩ := hrel
      by_cases hlt : k < xss.length
      · obtain ⟨b, off, a', cap', rfl, hbl, hc, hr⟩ := hx.row k hlt
        have HN : Hid (totS xss (k+1) = totS xss k + (rowL xss k).length) := rfl
        have hmn := totS_mono (xss := xss) (j := k + 1) (k := xss.length) (by omega)
        obtain ⟨n, hn⟩ : ∃ n, n = (rowL xss k).length := ⟨_, rfl⟩
        obtain ⟨T, hT⟩ : ∃ T, T = totS xss k := ⟨_, rfl⟩
        have hrl := hr.len
        rw [HN.out] at hmn
        rw [← hn] at hmn hc HN hrl
        rw [← hT] at hmn HN hp ⊢
        have k1 : (k : Int) < (xss.length : Int) := by omega
        clear hr hn hT
        by_cases hz : l - (xss.length : Int) - (T : Int) - (n : Int) < 0
        · have hs : szF (l - (xss.length : Int) - (T : Int)) n = -1 := by simp only [szF]; rw [if_pos hz]
          have HS := Lib.hid hs
          clear hs
          go_wp2_with fail
          refine (szIntS_any _ _ _ _ _ hp (by omega) hrl).mono ?_
          rw [HS.out]
          rintro e w' ⟨rfl, rfl⟩
          go_wp2_with fail
          go_ret
          exact ⟨⟨_, rfl, .inl ⟨by omega, rfl⟩⟩, rfl⟩
        · have hs : szF (l - (xss.length : Int) - (T : Int)) n = l - (xss.length : Int) - (T : Int) - (n : Int) := by simp only [szF]; rw [if_neg hz]
          have HS := Lib.hid hs
          clear hs
          go_wp2_with fail
          refine (szIntS_any _ _ _ _ _ hp (by omega) hrl).mono ?_
          rw [HS.out]
          rintro e w' ⟨rfl, rfl⟩
          go_wp2_with fail
          go_round
          case rel => exact ⟨k + 1, by omega, by go_num, val_int (by rw [HN.out]; omega), by rw [HN.out]; omega⟩
          case measure => simp [intOf]; omega
      · obtain rfl : k = xss.length := by omega
        go_wp2_with fail
        go_ret
        exact ⟨⟨_, rfl, .inr ⟨by omega, by omega⟩⟩, rfl⟩
theorem szIntSS_ok {a : Option Addr} {xss : List (List Int)} {cap : Nat} {w : World} (h : ((xss.length + totS xss xss.length : Nat) : Int) ≤ 1048576) (hx : RdS w a xss) :
    Calls Try.prog 6 #[.slice a xss.length cap, .int .i64 1048576] w fun e w' => e = .returned (.int .i64 (1048576 - ((xss.length + totS xss xss.length : Nat) : Int))) ∧ w = w' :=
  (szIntSS_any a xss cap 1048576 w (by omega) (by omega) hx).mono (fun e w' ⟨⟨r, he, hr⟩, hw⟩ => ⟨by rcases hr with ⟨h2, _⟩ | ⟨_, h2⟩; (· omega); (· rw [he, h2]), hw⟩)
theorem szIntSS_no {a : Option Addr} {xss : List (List Int)} {cap : Nat} {w : World} (h : 1048576 < ((xss.length + totS xss xss.length : Nat) : Int)) (hx : RdS w a xss) :
    Calls Try.prog 6 #[.slice a xss.length cap, .int .i64 1048576] w fun e w' => e = .returned (.int .i64 (-1)) ∧ w = w' :=
  (szIntSS_any a xss cap 1048576 w (by omega) (by omega) hx).mono (fun e w' ⟨⟨r, he, hr⟩, hw⟩ => ⟨by rcases hr with ⟨_, h2⟩ | ⟨h2, _⟩; (· rw [he, h2]); (· omega), hw⟩)

theorem set_step (xs : List Int) (k : Nat) (h : k < xs.length) :
    ((xs.take k ++ List.replicate (xs.length - k) (0:Int)).map (Value.int .i64)).set k (.int .i64 (nth xs k)) = (xs.take (k+1) ++ List.replicate (xs.length - (k+1)) (0:Int)).map (Value.int .i64) := by
  apply List.ext_getElem?
  intro j
  have hk : (xs.take k).length = k := by simp; omega
  have hk1 : (xs.take (k+1)).length = k+1 := by simp; omega
  rw [List.getElem?_set]
  by_cases hj : k = j
  · subst hj
    rw [if_pos rfl, if_pos (by simp; omega), List.getElem?_map, List.getElem?_append_left (by omega)]
    simp [nth, h]
  · simp only [hj, if_false, List.getElem?_map, List.getElem?_append, hk, hk1, List.getElem?_take, List.getElem?_replicate]
    by_cases h1 : j < k
    · have h2 : j < k + 1 := by omega
      simp [h1, h2]
    · have h2 : ¬ j < k + 1 := by omega
      have h3 : j - k < xs.length - k ↔ j - (k+1) < xs.length - (k+1) := by omega
      simp [h1, h2, h3]
theorem toIntS_any (a : Option Addr) (xs : List Int) (cap : Nat) (w : World) (hx : Rd w a xs) (hn : xs.length ≤ 1048576) :
    Calls Try.prog 16 #[.slice a xs.length cap] w fun e w' => ∃ a' cap', e = .returned (.slice a' xs.length cap') ∧ OwnI w' w.heap.size (.slice a' xs.length cap') xs ∧ Below w.heap.size w w' := by
  obtain ⟨i0, hi, hz0, hz1, hz2⟩ := info_parts infoInt
  go_enter Try.func16, Try.ntmps16
  go_wp2_with (at_make; refine wpList_make_full _ rfl (.tmp 6) (.tmp 6) 24 rfl w.heap.size 3 i0 (.int .i64 0) 1 Try.underlying24 hi hz0 hz1 .i64 .i64 _ _ xs.length rfl rfl rfl rfl (by rw [hz2]; omega) (by unfold maxLen; omega) (Nat.le_refl _) ?_; intro w1 hown hgrow)
  have hb0 : Below w.heap.size w w1 := (Below.refl _ _).grown hgrow (Nat.le_refl _) (fun k h => by cases h)
  have hown0 : w1.ownsRow w.heap.size 3 1 (.slice (some ⟨w.heap.size, 0, none⟩) xs.length xs.length) xs.length ((xs.take 0 ++ List.replicate (xs.length - 0) (0:Int)).map (Value.int .i64)) := by
    simpa [Value.cells, toList_madeCells_one] using hown
  clear hown hgrow
  have hz : w.heap.size < w1.heap.size := by
    have := (World.ownsRow.lt hown0 w.heap.size rfl).2
    omega
  go_loopw [4] (fun i wr => ∃ k : Nat, k ≤ xs.length ∧ i = .int .i64 k ∧ wr.ownsRow w.heap.size 3 1 (.slice (some ⟨w.heap.size, 0, none⟩) xs.length xs.length) xs.length ((xs.take k ++ List.replicate (xs.length - k) (0:Int)).map (Value.int .i64)) ∧ Below w.heap.size w wr) (fun i _ => xs.length - (intOf i).toNat)
  case atStart => exact ⟨0, Nat.zero_le _, rfl, hown0, hb0⟩
  case round =>
    obtain ⟨k, hk, rfl, hown, hb⟩ := hrel
    by_cases hlt : k < xs.length
    · obtain ⟨b, off, rfl, hbl, hc⟩ := hx.cell k hlt
      have hc1 := (hb.cell (p := ⟨b, off + k, none⟩) hbl).trans hc
      have hst := World.ownsRow.stored hown k (.int .i64 (nth xs k))
      rw [set_step xs k hlt] at hst
      have hcc := World.ownsRow.cellAt hown k (by omega)
      have hfr := World.ownsRow.frozenAt hown k
      have hcc' : ∃ u, wr.cell? ⟨w.heap.size, k, none⟩ = some u := by
        rw [hcc]
        exact ⟨_, List.getElem?_eq_getElem (by simp; omega)⟩
      obtain ⟨u, hu⟩ := hcc'
      have Hst := Lib.hid hst
      clear hst hcc hown hc
      go_wp2
      go_roundw
      case rel => exact ⟨k + 1, by omega, by go_num, Hst.out.1, hb.setCell (Nat.le_refl _) _⟩
      case measure => simp [intOf]; omega
    · obtain rfl : k = xs.length := by omega
      go_wp2
      go_ret
      refine ⟨_, _, rfl, ?_, hb⟩
      have : xs.take xs.length ++ List.replicate (xs.length - xs.length) (0:Int) = xs := by simp
      rw [this] at hown
      exact hown

theorem infoIntS : (Try.prog.info? 24).map (fun i => (i.zero, i.size, i.bytes)) = some (some (.slice none 0 0), 1, 24) := by kernel_rfl
theorem sset_step (vl : List Value) (n k : Nat) (v z : Value) (hk : vl.length = k) (h : k < n) :
    (vl ++ List.replicate (n - k) z).set k v = (vl ++ [v]) ++ List.replicate (n - (k+1)) z := by
  rw [List.set_append_right _ _ (by omega), hk, Nat.sub_self, List.append_assoc]
  congr 1
  rw [show n - k = (n - (k+1)) + 1 by omega, List.replicate_succ, List.set_cons_zero]
  rfl
theorem valAt_app {vl : List Value} {v : Value} {k : Nat} (h : k < vl.length) : valAt (vl ++ [v]) k = valAt vl k := by
  simp [valAt, List.getElem?_append, h]
theorem valAt_last (vl : List Value) (v : Value) : valAt (vl ++ [v]) vl.length = v := by
  simp [valAt]
theorem toIntSS_any (a : Option Addr) (xss : List (List Int)) (cap : Nat) (w : World) (hx : RdS w a xss) (hn : xss.length + totS xss xss.length ≤ 1048576) :
    Calls Try.prog 8 #[.slice a xss.length cap] w fun e w' => ∃ g cap' vl, e = .returned (.slice (some ⟨g, 0, none⟩) xss.length cap') ∧ OwnS w' w.heap.size g vl xss ∧ Below w.heap.size w w' := by
  obtain ⟨i0, hi, hz0, hz1, hz2⟩ := info_parts infoIntS
  have hlen := hx.len
  go_enter Try.func8, Try.ntmps8
  go_wp2_with (at_make; refine wpList_make_full _ rfl (.tmp 6) (.tmp 6) 22 rfl w.heap.size 24 i0 (.slice none 0 0) 1 Try.underlying22 hi hz0 hz1 .i64 .i64 _ _ xss.length rfl rfl rfl rfl (by rw [hz2]; omega) (by unfold maxLen; omega) (Nat.le_refl _) ?_; intro w1 hown hgrow)
  have hb0 : Below w.heap.size w w1 := (Below.refl _ _).grown hgrow (Nat.le_refl _) (fun k h => by cases h)
  have hown0 : w1.ownsRow w.heap.size 24 1 (.slice (some ⟨w.heap.size, 0, none⟩) xss.length xss.length) xss.length ([] ++ List.replicate (xss.length - 0) (.slice none 0 0)) := by
    simpa [Value.cells, toList_madeCells_one] using hown
  clear hown hgrow
  have hz : w.heap.size < w1.heap.size := by
    have := (World.ownsRow.lt hown0 w.heap.size rfl).2
    omega
  go_loopw [4] (fun i wr => ∃ (k : Nat) (vl : List Value), k ≤ xss.length ∧ i = .int .i64 k ∧ vl.length = k ∧ wr.ownsRow w.heap.size 24 1 (.slice (some ⟨w.heap.size, 0, none⟩) xss.length xss.length) xss.length (vl ++ List.replicate (xss.length - k) (.slice none 0 0)) ∧ (∀ j, j < k → OwnI wr (w.heap.size + 1) (valAt vl j) (rowL xss j)) ∧ (∀ j i, j < i → i < k → ∀ c d, (valAt vl j).ownBlock = some c → (valAt vl i).ownBlock = some d → c < d) ∧ Below w.heap.size w wr ∧ w.heap.size < wr.heap.size) (fun i _ => xss.length - (intOf i).toNat)
  case atStart => exact ⟨0, [], Nat.zero_le _, rfl, rfl, hown0, fun j hj => by omega, fun j i _ hi => by omega, hb0, hz⟩
  case round =>
    obtain ⟨k, vl, hk, rfl, hvl, hown, hrow, hap, hb, hzr⟩ := hrel
    have HVL := Lib.hid hvl
    have HROW := Lib.hid hrow
    have HAP := Lib.hid hap
    clear hvl hrow hap
    by_cases hlt : k < xss.length
    · obtain ⟨b, off, a', cap', rfl, hbl, hc1, hr⟩ := (hx.below hb).row k hlt
      have hrt := row_tot (xss := xss) hlt
      have k1 : (k : Int) < (xss.length : Int) := by omega
      have hro : (rowL xss k).length ≤ 1048576 := by omega
      go_wp2_with fail
      refine (toIntS_any _ _ _ _ hr hro).mono ?_
      rintro e w2 ⟨a2, cap2, rfl, ho2, hb2⟩
      have hown2 := ownsRow_bel hown hb2 (Nat.le_refl _)
      have hst := World.ownsRow.stored hown2 k (.slice a2 (rowL xss k).length cap2)
      rw [sset_step vl xss.length k _ _ HVL.out hlt] at hst
      have hcc := World.ownsRow.cellAt hown2 k (by omega)
      have hfr := World.ownsRow.frozenAt hown2 k
      have hcc' : ∃ u, w2.cell? ⟨w.heap.size, k, none⟩ = some u := by
        rw [hcc]
        exact ⟨_, List.getElem?_eq_getElem (by simp [HVL.out]; omega)⟩
      obtain ⟨u, hu⟩ := hcc'
      have Hst := Lib.hid hst
      have bw2 := hb.trans (hb2.mono hb.size)
      have hz2' := hb2.size
      clear hst hcc hown hown2 hc1
      go_wp2_with fail
      go_roundw
      case rel =>
        refine ⟨k + 1, vl ++ [.slice a2 (rowL xss k).length cap2], by omega, by go_num, by simp [HVL.out], Hst.out.1, fun j hj => ?_, fun j i hji hi c d hc hd => ?_, bw2.setCell (Nat.le_refl _) _, by simp; omega⟩
        · by_cases e : j = k
          · subst e
            have hva := valAt_last vl (.slice a2 (rowL xss j).length cap2)
            rw [HVL.out] at hva
            rw [hva]
            exact (ho2.mono (B' := w.heap.size + 1) (by omega)).setBelow (show w.heap.size < w.heap.size + 1 by omega) _
          · rw [valAt_app (by rw [HVL.out]; omega)]
            exact ((HROW.out j (by omega)).below hb2 (Nat.le_refl _)).setBelow (show w.heap.size < w.heap.size + 1 by omega) _
        · rw [valAt_app (by rw [HVL.out]; omega)] at hc
          by_cases e : i = k
          · subst e
            have hva := valAt_last vl (.slice a2 (rowL xss i).length cap2)
            rw [HVL.out] at hva
            rw [hva] at hd
            have h1 := (HROW.out j (by omega)).lt c hc
            have h2 := ho2.lt d hd
            omega
          · rw [valAt_app (by rw [HVL.out]; omega)] at hd
            exact HAP.out j i hji (by omega) c d hc hd
      case measure => simp [intOf]; omega
    · obtain rfl : k = xss.length := by omega
      go_wp2_with fail
      go_ret
      refine ⟨w.heap.size, xss.length, vl, rfl, ⟨Nat.le_refl _, hzr, hlen, fun j hj => ?_, HROW.out, HAP.out⟩, hb⟩
      rw [World.ownsRow.cellAt hown j (by omega)]
      simp [valAt, List.getElem?_append, HVL.out, hj]

def eqL (xs ys : List Int) : Bool := decide (xs = ys)
theorem eqIntS_any (a b : Option Addr) (xs ys : List Int) (ca cb : Nat) (w : World) (hx : Rd w a xs) (hy : Rd w b ys) :
    Calls Try.prog 10 #[.slice a xs.length ca, .slice b ys.length cb] w fun e w' => e = .returned (.bool (eqL xs ys)) ∧ Below w.heap.size w w' := by
  have hlx := hx.len
  have hly := hy.len
  by_cases hl : xs.length = ys.length
  · have hl' : ((xs.length : Int) != (ys.length : Int)) = false := by simp [hl]
    go_enter Try.func10, Try.ntmps10
    have HL := Lib.hid hl
    clear hl
    go_wp2_with fail
    go_loopw [5] (fun i wr => ∃ k : Nat, k ≤ xs.length ∧ i = .int .i64 k ∧ xs.take k = ys.take k ∧ Below w.heap.size w wr) (fun i _ => xs.length - (intOf i).toNat)
    case atStart => exact ⟨0, Nat.zero_le _, rfl, rfl, Below.refl _ _⟩
    case round =>
      obtain ⟨k, hk, rfl, htk, hb⟩ := hrel
      have HT := Lib.hid htk
      clear htk
      by_cases hlt : k < xs.length
      · have hlt' : k < ys.length := by rw [← HL.out]; exact hlt
        obtain ⟨b1, o1, rfl, hb1, hc1⟩ := (hx.below hb).cell k hlt
        obtain ⟨b2, o2, rfl, hb2, hc2⟩ := (hy.below hb).cell k hlt'
        by_cases he : nth xs k = nth ys k
        · have he' : (nth xs k != nth ys k) = false := by simp [he]
          have HE := Lib.hid he
          clear he
          go_wp2_with fail
          go_quiet (fail)
          go_wp2_with fail
          go_roundw
          case rel =>
            refine ⟨k + 1, by omega, by go_num, ?_, by exact hb.trans (Joins.below_draws _ _ _)⟩
            rw [List.take_succ_eq_append_getElem hlt, List.take_succ_eq_append_getElem hlt', HT.out, ← nth_get, ← nth_get, HE.out]
          case measure => simp [intOf]; omega
        · have he' : (nth xs k != nth ys k) = true := by simp [he]
          have hne : eqL xs ys = false := by
            simp only [eqL, decide_eq_false_iff_not]
            intro e
            subst e
            exact he rfl
          have HN := Lib.hid hne
          clear he hne
          go_wp2_with fail
          go_quiet (fail)
          go_wp2_with fail
          go_ret
          exact ⟨ret_bool HN.out.symm, hb.trans (Joins.below_draws _ _ _)⟩
      · go_wp2_with fail
        go_ret
        refine ⟨ret_bool ?_, hb⟩
        have h1 := HT.out
        rw [List.take_of_length_le (by omega), List.take_of_length_le (by rw [← HL.out]; omega)] at h1
        simp [eqL, h1]
  · have hl' : ((xs.length : Int) != (ys.length : Int)) = true := by simp; omega
    have hne : eqL xs ys = false := by
      simp only [eqL, decide_eq_false_iff_not]
      intro e
      exact hl (by rw [e])
    have HN := Lib.hid hne
    clear hl hne
    go_enter Try.func10, Try.ntmps10
    go_wp2_with fail
    go_ret
    exact ⟨ret_bool HN.out.symm, Below.refl _ _⟩
theorem eqL_self (xs : List Int) : eqL xs xs = true := by simp [eqL]

theorem eqIntSS_same (a b : Option Addr) (xss : List (List Int)) (ca cb : Nat) (w : World) (hx : RdS w a xss) (hy : RdS w b xss) :
    Calls Try.prog 11 #[.slice a xss.length ca, .slice b xss.length cb] w fun e w' => e = .returned (.bool true) ∧ Below w.heap.size w w' := by
  have hlen := hx.len
  go_enter Try.func11, Try.ntmps11
  go_wp2_with fail
  go_loopw [5] (fun i wr => ∃ k : Nat, k ≤ xss.length ∧ i = .int .i64 k ∧ Below w.heap.size w wr) (fun i _ => xss.length - (intOf i).toNat)
  case atStart => exact ⟨0, Nat.zero_le _, rfl, Below.refl _ _⟩
  case round =>
    obtain ⟨k, hk, rfl, hb⟩ := hrel
    by_cases hlt : k < xss.length
    · obtain ⟨b1, off1, a1, cap1, rfl, hbl1, hc1, hr1⟩ := (hx.below hb).row k hlt
      obtain ⟨b2, off2, a2, cap2, rfl, hbl2, hc2, hr2⟩ := (hy.below hb).row k hlt
      have k1 : (k : Int) < (xss.length : Int) := by omega
      have HE : Hid (eqL (rowL xss k) (rowL xss k) = true) := eqL_self _
      go_wp2_with fail
      go_region_held3 (fun w' => w'.cell? ⟨b1, off1 + k, none⟩ = some (.slice a1 (rowL xss k).length cap1) ∧ w'.cell? ⟨b2, off2 + k, none⟩ = some (.slice a2 (rowL xss k).length cap2))
        (first | exact ⟨(ht3.cell (p := ⟨b1, off1 + k, none⟩) hbl1).trans hc1, (ht3.cell (p := ⟨b2, off2 + k, none⟩) hbl2).trans hc2⟩ | go_keep)
        (first | (go_at_call 10; refine (eqIntS_any _ _ _ _ _ _ _ (hr1.below (Joins.below_draws _ _ _)) (hr2.below (Joins.below_draws _ _ _))).mono ?_; rw [HE.out]; rintro e w3 ⟨rfl, hb3⟩; have ht3 : Below wr.heap.size wr w3 := (Joins.below_draws _ _ _).trans hb3))
      have bw3 := hb.trans (ht3.mono hb.size)
      clear hb3 ht3 hc1 hc2
      go_wp2_with fail
      go_roundw
      case rel => exact ⟨k + 1, by omega, by go_num, bw3⟩
      case measure => simp [intOf]; omega
    · obtain rfl : k = xss.length := by omega
      go_wp2_with fail
      go_ret
      exact ⟨rfl, hb⟩

def inB (n lo hi : Int) : Bool := decide (lo ≤ n) && decide (n ≤ hi)
theorem inB_iff {n lo hi : Int} : inB n lo hi = true ↔ lo ≤ n ∧ n ≤ hi := by simp [inB]
theorem inB_no {n lo hi : Int} : inB n lo hi = false ↔ n < lo ∨ hi < n := by
  rw [← Bool.not_eq_true, inB_iff]
  omega

def allB (xs : List Int) (lo hi : Int) : Bool := xs.all (fun x => inB x lo hi)
theorem allB_take (xs : List Int) (lo hi : Int) (k : Nat) (h : k < xs.length) : allB (xs.take (k+1)) lo hi = (allB (xs.take k) lo hi && inB (nth xs k) lo hi) := by
  simp only [allB]
  rw [List.take_succ_eq_append_getElem h, List.all_append]
  simp [nth, h]
theorem allB_false {xs : List Int} {lo hi : Int} {k : Nat} (h : k < xs.length) (h1 : inB (nth xs k) lo hi = false) : allB xs lo hi = false := by
  simp only [allB, List.all_eq_false]
  exact ⟨xs[k], List.getElem_mem h, by simpa [nth, h] using h1⟩
theorem allB_nth {xs : List Int} {lo hi : Int} (h : allB xs lo hi = true) {k : Nat} (hk : k < xs.length) : lo ≤ nth xs k ∧ nth xs k ≤ hi := by
  simp only [allB, List.all_eq_true] at h
  have := inB_iff.1 (h _ (List.getElem_mem hk))
  rwa [← nth_get xs k hk] at this

def memB (es : List Int) (i : Int) : Bool := (List.range es.length).any (fun k => nth es k == i)
theorem memB_iff {es : List Int} {i : Int} : memB es i = true ↔ ∃ k, k < es.length ∧ nth es k = i := by simp [memB]
theorem l1Has_any (a : Option Addr) (es : List Int) (cap : Nat) (i : Int) (w : World) (hx : Rd w a es) :
    Calls Try.prog 52 #[.slice a es.length cap, .int .i64 i] w fun e w' => e = .returned (.bool (memB es i)) ∧ w = w' := by
  have hlen := hx.len
  go_enter Try.func52, Try.ntmps52
  go_wp2_with fail
  go_loop [9] (fun i' => ∃ k : Nat, k ≤ es.length ∧ i' = .int .i64 k ∧ ∀ j, j < k → nth es j ≠ i) (fun i' => es.length - (intOf i').toNat)
  case atStart => exact ⟨0, Nat.zero_le _, rfl, fun j hj => by omega⟩
  case round =>
    obtain ⟨k, hk, rfl, hall⟩ := hrel
    have HA := Lib.hid hall
    clear hall
    by_cases hlt : k < es.length
    · obtain ⟨b, off, rfl, hbl, hc⟩ := hx.cell k hlt
      cases he : (nth es k == i)
      · have HE := Lib.hid (by simpa using he : nth es k ≠ i)
        go_wp2_with fail
        go_round
        case rel =>
          refine ⟨k + 1, by omega, by go_num, fun j hj => ?_⟩
          by_cases e : j = k
          · rw [e]; exact HE.out
          · exact HA.out j (by omega)
        case measure => simp [intOf]; omega
      · have HM := Lib.hid (memB_iff.2 ⟨k, hlt, by simpa using he⟩)
        go_wp2_with fail
        go_ret
        exact ⟨ret_bool HM.out.symm, rfl⟩
    · obtain rfl : k = es.length := by omega
      have HM : Hid (memB es i = false) := by
        rw [Hid, ← Bool.not_eq_true, memB_iff]
        rintro ⟨j, hj, e⟩
        exact HA.out j hj e
      go_wp2_with fail
      go_ret
      exact ⟨ret_bool HM.out.symm, rfl⟩

/-- is it a relation? -/
def relB (n : Int) (xs : List Int) : Bool := inB n 0 10 && decide ((xs.length : Int) = n) && allB xs 0 (2 ^ n.toNat - 1)
theorem relB_iff {n : Int} {xs : List Int} : relB n xs = true ↔ (0 ≤ n ∧ n ≤ 10) ∧ (xs.length : Int) = n ∧ allB xs 0 (2 ^ n.toNat - 1) = true := by
  simp [relB, inB_iff, and_assoc]
theorem pow10 {n : Nat} (h : n ≤ 10) : (1 : Int) ≤ 2 ^ n ∧ (2 : Int) ^ n ≤ 1024 := by
  have h1 : 2 ^ n ≤ 2 ^ 10 := Nat.pow_le_pow_right (by omega) h
  have h2 : 1 ≤ 2 ^ n := Nat.one_le_two_pow
  have h3 : ((2 ^ n : Nat) : Int) = (2 : Int) ^ n := by simp
  omega
theorem full_eq {n : Int} (h0 : 0 ≤ n) (h1 : n ≤ 10) : wrap64 (wrap64 (2 ^ n.toNat) - 1) = 2 ^ n.toNat - 1 := by
  have h2 := pow10 (n := n.toNat) (by omega)
  generalize (2 : Int) ^ n.toNat = p at *
  rw [IntWalk.wrap64_in p ⟨by omega, by omega⟩, IntWalk.wrap64_in _ ⟨by omega, by omega⟩]
structure RelP (n : Int) (xs : List Int) : Prop where
  n0 : 0 ≤ n
  n1 : n ≤ 10
  len : (xs.length : Int) = n
  pos : ∀ k, k < xs.length → 0 ≤ nth xs k
  lt : ∀ k, k < xs.length → nth xs k < 2 ^ xs.length
  small : ∀ k, k < xs.length → nth xs k < 1024
theorem relB_p {n : Int} {xs : List Int} (h : relB n xs = true) : RelP n xs := by
  obtain ⟨⟨h0, h1⟩, h2, h3⟩ := relB_iff.1 h
  have e : n.toNat = xs.length := by omega
  rw [e] at h3
  have hp := pow10 (n := xs.length) (by omega)
  exact ⟨h0, h1, h2, fun k hk => (allB_nth h3 hk).1, fun k hk => by have := (allB_nth h3 hk).2; omega, fun k hk => by have := (allB_nth h3 hk).2; omega⟩

theorem wrap64_small (n : Int) (h0 : -9223372036854775808 ≤ n) (h1 : n ≤ 9223372036854775807) : IntKind.i64.wrap n = n := by
  simp only [IntKind.wrap, IntKind.bits, IntKind.signed]
  simp
  omega
theorem i64_wrap (n : Int) : IntKind.i64.wrap n = wrap64 n := IntWalk.i64_left n
theorem ofInt_i64 (a : Nat) (ha : a < 9223372036854775808) : (BitVec.ofInt 64 (a : Int)).toNat = a := by
  simp
  omega
theorem and_nat (a b : Nat) (ha : a < 9223372036854775808) (hb : b < 9223372036854775808) : bits .and .i64 (a : Int) (b : Int) = ((a &&& b : Nat) : Int) := by
  have hx : a &&& b < 2 ^ 63 := Nat.and_lt_two_pow _ (by omega)
  show IntKind.i64.wrap ((BitVec.ofInt 64 (a : Int) &&& BitVec.ofInt 64 (b : Int)).toNat : Int) = _
  rw [BitVec.toNat_and, ofInt_i64 a ha, ofInt_i64 b hb, wrap64_small _ (by omega) (by omega)]
theorem or_nat (a b : Nat) (ha : a < 9223372036854775808) (hb : b < 9223372036854775808) : bits .or .i64 (a : Int) (b : Int) = ((a ||| b : Nat) : Int) := by
  have hx : a ||| b < 2 ^ 63 := Nat.or_lt_two_pow (by omega) (by omega)
  show IntKind.i64.wrap ((BitVec.ofInt 64 (a : Int) ||| BitVec.ofInt 64 (b : Int)).toNat : Int) = _
  rw [BitVec.toNat_or, ofInt_i64 a ha, ofInt_i64 b hb, wrap64_small _ (by omega) (by omega)]
/-- a set without the elements of another one -/
def sub (a b : Nat) : Nat := a ^^^ (a &&& b)
theorem testBit_sub (a b i : Nat) : (sub a b).testBit i = (a.testBit i && !b.testBit i) := by
  simp [sub, Nat.testBit_xor, Nat.testBit_and]
  cases a.testBit i <;> cases b.testBit i <;> rfl
theorem sub_lt {a b n : Nat} (h : a < 2 ^ n) : sub a b < 2 ^ n := by
  unfold sub
  exact Nat.xor_lt_two_pow h (by rw [Nat.and_comm]; exact Nat.and_lt_two_pow _ h)
theorem sub_nat (a b : Nat) (ha : a < 9223372036854775808) (hb : b < 9223372036854775808) : bits .andNot .i64 (a : Int) (b : Int) = ((sub a b : Nat) : Int) := by
  have hs : sub a b < 2 ^ 63 := sub_lt (by omega)
  show IntKind.i64.wrap ((BitVec.ofInt 64 (a : Int) &&& ~~~BitVec.ofInt 64 (b : Int)).toNat : Int) = _
  have e : (BitVec.ofInt 64 (a : Int) &&& ~~~BitVec.ofInt 64 (b : Int)).toNat = sub a b := by
    apply Nat.eq_of_testBit_eq
    intro i
    rw [BitVec.testBit_toNat, BitVec.getLsbD_and, BitVec.getLsbD_not, testBit_sub, ← BitVec.testBit_toNat, ← BitVec.testBit_toNat, ofInt_i64 a ha, ofInt_i64 b hb]
    by_cases hi : i < 64
    · simp [hi]
    · have : a.testBit i = false := Nat.testBit_lt_two_pow (Nat.lt_of_lt_of_le (by omega : a < 2 ^ 64) (Nat.pow_le_pow_right (by omega) (by omega)))
      simp [this]
  rw [e, wrap64_small _ (by omega) (by omega)]
theorem shr_nat (s i : Nat) (hs : s < 9223372036854775808) : (s : Int) / (2 ^ min i 64) = ((s >>> i : Nat) : Int) := by
  rw [Nat.shiftRight_eq_div_pow]
  by_cases h : i ≤ 64
  · rw [Nat.min_eq_left h]
    simp
  · rw [Nat.min_eq_right (by omega)]
    have : 2 ^ 64 ≤ 2 ^ i := Nat.pow_le_pow_right (by omega) (by omega)
    rw [Nat.div_eq_of_lt (by omega)]
    omega
theorem bit_and (s i : Nat) (hs : s < 9223372036854775808) : (bits .and .i64 ((s >>> i : Nat) : Int) 1 == 1) = s.testBit i := by
  have h1 : s >>> i ≤ s := by rw [Nat.shiftRight_eq_div_pow]; exact Nat.div_le_self _ _
  have := and_nat (s >>> i) 1 (by omega) (by omega)
  rw [show ((1 : Nat) : Int) = 1 from rfl] at this
  rw [this, Nat.testBit, Nat.and_one_is_mod, Nat.and_comm, Nat.and_one_is_mod]
  rcases Nat.mod_two_eq_zero_or_one (s >>> i) with h | h <;> simp [h]
theorem bit_mod (s i : Nat) : (((s >>> i : Nat) : Int) % 2 == 1) = s.testBit i := by
  rw [Nat.testBit, Nat.and_comm, Nat.and_one_is_mod]
  rcases Nat.mod_two_eq_zero_or_one (s >>> i) with h | h
  · have h2 : ((s >>> i : Nat) : Int) % 2 = 0 := by omega
    rw [h2, h]; rfl
  · have h2 : ((s >>> i : Nat) : Int) % 2 = 1 := by omega
    rw [h2, h]; rfl
theorem bit_tmod (s i : Nat) : (((s >>> i : Nat) : Int).tmod 2 == 1) = s.testBit i := by
  rw [Int.tmod_eq_emod_of_nonneg (Int.natCast_nonneg _), bit_mod]
/-- is i in the set s? -/
def hasB (s i : Int) : Bool := s.toNat.testBit i.toNat
theorem has_and {s i : Int} (h0 : 0 ≤ s) (h1 : s ≤ 9223372036854775807) (hi : 0 ≤ i) : (bits .and .i64 (s / 2 ^ min i.toNat 64) 1 == 1) = hasB s i := by
  obtain ⟨S, rfl⟩ := Int.eq_ofNat_of_zero_le h0
  rw [shr_nat S _ (by omega), bit_and S _ (by omega)]
  rfl
theorem has_mod {s i : Int} (h0 : 0 ≤ s) (h1 : s ≤ 9223372036854775807) (hi : 0 ≤ i) : ((s / 2 ^ min i.toNat 64).tmod 2 == 1) = hasB s i := by
  obtain ⟨S, rfl⟩ := Int.eq_ofNat_of_zero_le h0
  rw [shr_nat S _ (by omega), bit_tmod S]
  rfl
theorem pow_w {k : Nat} (h : k < 62) : wrap64 (2 ^ k) = ((2 ^ k : Nat) : Int) := by
  have : 2 ^ k ≤ 2 ^ 61 := Nat.pow_le_pow_right (by omega) (by omega)
  rw [show ((2:Int) ^ k) = ((2 ^ k : Nat) : Int) by simp]
  generalize hp : 2 ^ k = p at *
  exact IntWalk.wrap64_in _ ⟨by omega, by omega⟩
theorem or_bit {b k : Nat} (hb : b < 4611686018427387904) (hk : k < 62) : bits .or .i64 (b : Int) (wrap64 (2 ^ k)) = ((b ||| 2 ^ k : Nat) : Int) := by
  rw [pow_w hk]
  have : 2 ^ k ≤ 2 ^ 61 := Nat.pow_le_pow_right (by omega) (by omega)
  exact or_nat _ _ (by omega) (by omega)
theorem or_i {a b : Int} (ha : 0 ≤ a) (ha1 : a < 9223372036854775808) (hb : 0 ≤ b) (hb1 : b < 9223372036854775808) : bits .or .i64 a b = ((a.toNat ||| b.toNat : Nat) : Int) := by
  obtain ⟨A, rfl⟩ := Int.eq_ofNat_of_zero_le ha
  obtain ⟨B, rfl⟩ := Int.eq_ofNat_of_zero_le hb
  exact or_nat A B (by omega) (by omega)
theorem sub_i {a b : Int} (ha : 0 ≤ a) (ha1 : a < 9223372036854775808) (hb : 0 ≤ b) (hb1 : b < 9223372036854775808) : bits .andNot .i64 a b = ((sub a.toNat b.toNat : Nat) : Int) := by
  obtain ⟨A, rfl⟩ := Int.eq_ofNat_of_zero_le ha
  obtain ⟨B, rfl⟩ := Int.eq_ofNat_of_zero_le hb
  exact sub_nat A B (by omega) (by omega)
theorem or_lt {a b n : Nat} (ha : a < 2 ^ n) (hb : b < 2 ^ n) : a ||| b < 2 ^ n := Nat.or_lt_two_pow ha hb
theorem two_lt {k n : Nat} (h : k < n) : 2 ^ k < 2 ^ n := Nat.pow_lt_pow_right (by omega) h
theorem testBit_two (k i : Nat) : (2 ^ k).testBit i = decide (k = i) := Nat.testBit_two_pow

/-- the elements of a set that are less than k, in order -/
def elemsTo (s : Nat) : Nat → List Int
  | 0 => []
  | k+1 => if s.testBit k then elemsTo s k ++ [(k : Int)] else elemsTo s k
theorem elemsTo_len (s : Nat) : ∀ k, (elemsTo s k).length ≤ k
  | 0 => by simp [elemsTo]
  | k+1 => by
    have := elemsTo_len s k
    simp only [elemsTo]
    split <;> simp <;> omega
theorem mem_elemsTo (s : Nat) (x : Int) : ∀ k, x ∈ elemsTo s k ↔ ∃ i : Nat, i < k ∧ s.testBit i = true ∧ x = i
  | 0 => by simp [elemsTo]
  | k+1 => by
    have ih := mem_elemsTo s x k
    simp only [elemsTo]
    cases hb : s.testBit k
    · rw [if_neg (by simp), ih]
      constructor
      · rintro ⟨i, h1, h2, h3⟩
        exact ⟨i, by omega, h2, h3⟩
      · rintro ⟨i, h1, h2, h3⟩
        have : i ≠ k := fun e => by rw [e, hb] at h2; cases h2
        exact ⟨i, by omega, h2, h3⟩
    · rw [if_pos rfl, List.mem_append, ih]
      constructor
      · rintro (⟨i, h1, h2, h3⟩ | h)
        · exact ⟨i, by omega, h2, h3⟩
        · exact ⟨k, by omega, hb, by simpa using h⟩
      · rintro ⟨i, h1, h2, h3⟩
        by_cases e : i = k
        · exact .inr (by simp [h3, e])
        · exact .inl ⟨i, by omega, h2, h3⟩
theorem elemsTo_more (s k : Nat) (h : s >>> k = 0) : ∀ m, elemsTo s (k + m) = elemsTo s k
  | 0 => rfl
  | m+1 => by
    have hb : s.testBit (k + m) = false := by
      rw [Nat.testBit]
      have : s >>> (k + m) = 0 := by rw [Nat.shiftRight_add, h]; simp
      simp [this]
    show elemsTo s (k + m + 1) = _
    simp only [elemsTo, hb]
    exact elemsTo_more s k h m
/-- all elements of a set below 1024 -/
def elems (s : Nat) : List Int := elemsTo s 10
theorem elems_at {s k : Nat} (h : s >>> k = 0) (hk : k ≤ 10) : elemsTo s k = elems s := by
  have := elemsTo_more s k h (10 - k)
  rw [show k + (10 - k) = 10 from by omega] at this
  exact this.symm
theorem elems_len (s : Nat) : (elems s).length ≤ 10 := elemsTo_len s 10
theorem mem_elems {s : Nat} (hs : s < 1024) {x : Int} : x ∈ elems s ↔ ∃ i : Nat, s.testBit i = true ∧ x = i := by
  rw [elems, mem_elemsTo]
  constructor
  · rintro ⟨i, _, h2, h3⟩
    exact ⟨i, h2, h3⟩
  · rintro ⟨i, h2, h3⟩
    refine ⟨i, ?_, h2, h3⟩
    rcases Nat.lt_or_ge i 10 with h | h
    · exact h
    · have : s < 2 ^ i := Nat.lt_of_lt_of_le hs (Nat.pow_le_pow_right (by omega : 0 < 2) h)
      rw [Nat.testBit_lt_two_pow this] at h2
      cases h2
theorem nth_mem {xs : List Int} {k : Nat} (h : k < xs.length) : nth xs k ∈ xs := by
  rw [nth_get xs k h]; exact List.getElem_mem h
theorem mem_nth {xs : List Int} {x : Int} (h : x ∈ xs) : ∃ k, k < xs.length ∧ nth xs k = x := by
  obtain ⟨k, hk, e⟩ := List.getElem_of_mem h
  exact ⟨k, hk, by rw [nth_get xs k hk, e]⟩

/-- the set of the first k numbers -/
def usedTo (xs : List Int) : Nat → Nat
  | 0 => 0
  | k+1 => usedTo xs k ||| 2 ^ (nth xs k).toNat
theorem usedTo_bit (xs : List Int) (i : Nat) : ∀ k, (usedTo xs k).testBit i = true ↔ ∃ j, j < k ∧ (nth xs j).toNat = i
  | 0 => by simp [usedTo]
  | k+1 => by
    have ih := usedTo_bit xs i k
    rw [usedTo, Nat.testBit_or, testBit_two, Bool.or_eq_true, ih, decide_eq_true_eq]
    constructor
    · rintro (⟨j, h1, h2⟩ | h)
      · exact ⟨j, by omega, h2⟩
      · exact ⟨k, by omega, h⟩
    · rintro ⟨j, h1, h2⟩
      by_cases e : j = k
      · subst e; exact .inr h2
      · exact .inl ⟨j, by omega, h2⟩
theorem usedTo_lt {xs : List Int} (h : ∀ j, j < xs.length → (nth xs j).toNat < 10) : ∀ k, k ≤ xs.length → usedTo xs k < 1024
  | 0, _ => by simp [usedTo]
  | k+1, hk => by
    have h1 := usedTo_lt h k (by omega)
    have h2 := two_lt (h k (by omega))
    exact or_lt (n := 10) (by omega) (by omega)
/-- is with each element above 0 the one below it in a set? -/
def downB (s : Nat) : Bool := (List.range 9).all fun k => !s.testBit (k+1) || s.testBit k
theorem downB_iff {s : Nat} : downB s = true ↔ ∀ k, k < 9 → s.testBit (k+1) = true → s.testBit k = true := by
  simp only [downB, List.all_eq_true, List.mem_range]
  constructor
  · intro h k hk h1
    have := h k hk
    rw [h1] at this
    simpa using this
  · intro h k hk
    cases h1 : s.testBit (k+1)
    · rfl
    · rw [h k hk h1]; rfl
def fullB (s : Nat) : Bool := (s : Int) == 2 ^ (((elems s).length : Nat) : Int).toNat - 1
theorem full_all : ∀ s : Fin 1024, fullB s.val = downB s.val := by decide +kernel
theorem full_down {s : Nat} (h : s < 1024) : fullB s = downB s := full_all ⟨s, h⟩
/-- are they levels? -/
def lvB (xs : List Int) : Bool := decide (xs.length ≤ 10) && (allB xs 0 10 && (List.range xs.length).all fun k => decide (nth xs k ≤ 0) || memB xs (nth xs k - 1))
def lvOk (xs : List Int) (k : Nat) : Bool := decide (nth xs k ≤ 0) || memB xs (nth xs k - 1)
theorem lvB_iff {xs : List Int} : lvB xs = true ↔ xs.length ≤ 10 ∧ allB xs 0 10 = true ∧ ∀ k, k < xs.length → lvOk xs k = true := by
  simp [lvB, lvOk]
theorem pig : ∀ (n : Nat) (l : List Int), (∀ m : Nat, m < n → (m : Int) ∈ l) → n ≤ l.length
  | 0, _, _ => Nat.zero_le _
  | n+1, l, h => by
    have h1 := h n (by omega)
    have h2 := pig n (l.erase (n : Int)) (fun m hm => (List.mem_erase_of_ne (by omega)).2 (h m (by omega)))
    rw [List.length_erase_of_mem h1] at h2
    have := List.length_pos_of_mem h1
    omega
theorem memB_mem {xs : List Int} {i : Int} : memB xs i = true ↔ i ∈ xs := by
  rw [memB_iff]
  constructor
  · rintro ⟨k, hk, rfl⟩; exact nth_mem hk
  · intro h; exact mem_nth h
theorem lv_down {xs : List Int} (h : ∀ k, k < xs.length → lvOk xs k = true) : ∀ v : Nat, (v : Int) ∈ xs → ∀ m : Nat, m ≤ v → (m : Int) ∈ xs
  | 0, hv, m, hm => by
    obtain rfl : m = 0 := by omega
    exact hv
  | v+1, hv, m, hm => by
    by_cases e : m = v + 1
    · subst e; exact hv
    · obtain ⟨k, hk, e2⟩ := mem_nth hv
      have h1 := h k hk
      simp only [lvOk, Bool.or_eq_true, decide_eq_true_eq] at h1
      rcases h1 with h1 | h1
      · omega
      · rw [memB_mem, e2] at h1
        have h2 : (v : Int) ∈ xs := by
          have : ((v + 1 : Nat) : Int) - 1 = (v : Int) := by omega
          rw [← this]; exact h1
        exact lv_down h v h2 m (by omega)
theorem lv_lt {xs : List Int} (h : lvB xs = true) {k : Nat} (hk : k < xs.length) : 0 ≤ nth xs k ∧ nth xs k < (xs.length : Int) := by
  obtain ⟨_, h2, h3⟩ := lvB_iff.1 h
  have ⟨h0, _⟩ := allB_nth h2 hk
  obtain ⟨v, hv⟩ := Int.eq_ofNat_of_zero_le h0
  have h4 : (v : Int) ∈ xs := by rw [← hv]; exact nth_mem hk
  have := pig (v+1) xs (fun m hm => lv_down h3 v h4 m (by omega))
  omega
theorem lv_full {xs : List Int} (h10 : xs.length ≤ 10) (hall : ∀ k, k < xs.length → 0 ≤ nth xs k ∧ nth xs k < (xs.length : Int)) : lvB xs = downB (usedTo xs xs.length) := by
  rw [Bool.eq_iff_iff, lvB_iff, downB_iff]
  constructor
  · rintro ⟨_, _, h3⟩ k hk h1
    obtain ⟨j, hj, e⟩ := (usedTo_bit _ _ _).1 h1
    have h4 := h3 j hj
    have := hall j hj
    simp only [lvOk, Bool.or_eq_true, decide_eq_true_eq] at h4
    rcases h4 with h4 | h4
    · omega
    · obtain ⟨i, hi, e2⟩ := memB_iff.1 h4
      exact (usedTo_bit _ _ _).2 ⟨i, hi, by omega⟩
  · intro h
    refine ⟨h10, ?_, fun k hk => ?_⟩
    · simp only [allB, List.all_eq_true]
      intro x hx
      obtain ⟨k, hk, rfl⟩ := mem_nth hx
      have := hall k hk
      rw [inB_iff]; omega
    · have := hall k hk
      simp only [lvOk, Bool.or_eq_true, decide_eq_true_eq]
      by_cases h0 : nth xs k ≤ 0
      · exact .inl h0
      · right
        obtain ⟨j, hj, e⟩ := (usedTo_bit _ _ _).1 (h ((nth xs k).toNat - 1) (by omega) ((usedTo_bit _ _ _).2 ⟨k, hk, by omega⟩))
        have := hall j hj
        exact memB_iff.2 ⟨j, hj, by omega⟩

def vtOk (xss : List (List Int)) (k : Nat) : Bool := lvB (rowL xss k) && decide ((rowL xss k).length = (rowL xss 0).length)
/-- may lists be voters? -/
def vtB (xss : List (List Int)) : Bool := decide (1 ≤ xss.length) && (decide (xss.length ≤ 15) && (List.range xss.length).all fun k => vtOk xss k)
theorem vtOk_iff {xss : List (List Int)} {k : Nat} : vtOk xss k = true ↔ lvB (rowL xss k) = true ∧ (rowL xss k).length = (rowL xss 0).length := by
  simp [vtOk]
theorem vtB_iff {xss : List (List Int)} : vtB xss = true ↔ 1 ≤ xss.length ∧ xss.length ≤ 15 ∧ ∀ k, k < xss.length → vtOk xss k = true := by
  simp [vtB]
theorem vt_no {xss : List (List Int)} {k : Nat} (hk : k < xss.length) (h : vtOk xss k = false) : vtB xss = false := by
  rw [← Bool.not_eq_true, vtB_iff]
  rintro ⟨_, _, h3⟩
  rw [h3 k hk] at h
  cases h

/-- strictly increasing -/
def Inc (l : List Int) : Prop := l.Pairwise (· < ·)
/-- how many numbers at the head are less than x -/
def putK : List Int → Int → Nat
  | [], _ => 0
  | y :: ys, x => if y < x then putK ys x + 1 else 0
theorem putK_le : ∀ (l : List Int) (x : Int), putK l x ≤ l.length
  | [], _ => Nat.le_refl _
  | y :: ys, x => by
    have := putK_le ys x
    simp only [putK]
    split <;> simp <;> omega
theorem putK_lt : ∀ (l : List Int) (x : Int) (j : Nat), j < putK l x → nth l j < x
  | [], _, j, h => by simp [putK] at h
  | y :: ys, x, j, h => by
    simp only [putK] at h
    split at h
    · rename_i hy
      cases j with
      | zero => simpa [nth] using hy
      | succ j => have := putK_lt ys x j (by omega); simpa [nth] using this
    · omega
theorem putK_ge : ∀ (l : List Int) (x : Int), putK l x < l.length → x ≤ nth l (putK l x)
  | [], _, h => by simp at h
  | y :: ys, x, h => by
    simp only [putK] at h ⊢
    split
    · rename_i hy
      rw [if_pos hy] at h
      have := putK_ge ys x (by simpa using h)
      simpa [nth] using this
    · rename_i hy
      simp [nth]; omega
/-- a list with a number put into it, unless it is there -/
def putL (l : List Int) (x : Int) : List Int := if putK l x < l.length ∧ nth l (putK l x) = x then l else l.take (putK l x) ++ [x] ++ l.drop (putK l x)
theorem putL_len (l : List Int) (x : Int) : (putL l x).length ≤ l.length + 1 := by
  have := putK_le l x
  unfold putL
  split
  · omega
  · simp; omega
theorem putL_mem (l : List Int) (x y : Int) : y ∈ putL l x ↔ y = x ∨ y ∈ l := by
  unfold putL
  split
  · rename_i h
    constructor
    · exact .inr
    · rintro (rfl | h1)
      · rw [← h.2, nth_get _ _ h.1]; exact List.getElem_mem _
      · exact h1
  · rw [List.mem_append, List.mem_append, List.mem_singleton]
    have e : y ∈ l ↔ y ∈ l.take (putK l x) ∨ y ∈ l.drop (putK l x) := by rw [← List.mem_append, List.take_append_drop]
    rw [e]
    constructor
    · rintro ((h | h) | h)
      · exact .inr (.inl h)
      · exact .inl h
      · exact .inr (.inr h)
    · rintro (h | h | h)
      · exact .inl (.inr h)
      · exact .inl (.inl h)
      · exact .inr h
theorem inc_nth {l : List Int} (h : Inc l) {i j : Nat} (hij : i < j) (hj : j < l.length) : nth l i < nth l j := by
  rw [nth_get _ _ (by omega), nth_get _ _ hj]
  exact (List.pairwise_iff_getElem.1 h) i j (by omega) hj hij
theorem putL_inc {l : List Int} (h : Inc l) (x : Int) : Inc (putL l x) := by
  unfold putL
  split
  · exact h
  · rename_i hn
    have hk := putK_le l x
    unfold Inc
    rw [List.append_assoc, List.pairwise_append]
    refine ⟨h.take, ?_, ?_⟩
    · rw [List.singleton_append, List.pairwise_cons]
      refine ⟨fun y hy => ?_, h.drop⟩
      obtain ⟨i, hi, rfl⟩ := List.getElem_of_mem hy
      rw [List.length_drop] at hi
      rw [List.getElem_drop]
      have h1 := putK_ge l x (by omega)
      have h2 : nth l (putK l x) ≠ x := fun e => hn ⟨by omega, e⟩
      have h3 : nth l (putK l x) ≤ nth l (putK l x + i) := by
        cases i with
        | zero => exact Int.le_refl _
        | succ i => exact Int.le_of_lt (inc_nth h (by omega) (by omega))
      rw [← nth_get _ _ (by omega)]
      omega
    · intro a ha b hb
      obtain ⟨i, hi, rfl⟩ := List.getElem_of_mem ha
      rw [List.length_take] at hi
      have h1 := putK_lt l x i (by omega)
      rw [List.getElem_take, ← nth_get _ _ (by omega)]
      rw [List.singleton_append, List.mem_cons] at hb
      rcases hb with rfl | hb
      · exact h1
      · obtain ⟨j, hj, rfl⟩ := List.getElem_of_mem hb
        rw [List.length_drop] at hj
        rw [List.getElem_drop, ← nth_get _ _ (by omega)]
        exact inc_nth h (by omega) (by omega)
/-- strictly increasing lists with the same numbers are the same -/
theorem inc_ext : ∀ {l m : List Int}, Inc l → Inc m → (∀ x, x ∈ l ↔ x ∈ m) → l = m
  | [], [], _, _, _ => rfl
  | [], y :: ys, _, _, h => by have := (h y).2 (by simp); simp at this
  | x :: xs, [], _, _, h => by have := (h x).1 (by simp); simp at this
  | x :: xs, y :: ys, h1, h2, h => by
    unfold Inc at h1 h2
    rw [List.pairwise_cons] at h1 h2
    have e : x = y := by
      have hx := (h x).1 (by simp)
      have hy := (h y).2 (by simp)
      rw [List.mem_cons] at hx hy
      rcases hx with hx | hx
      · exact hx
      · rcases hy with hy | hy
        · exact hy.symm
        · have a := h2.1 x hx
          have b := h1.1 y hy
          omega
    subst e
    congr 1
    refine inc_ext h1.2 h2.2 (fun z => ?_)
    constructor
    · intro hz
      have := (h z).1 (by simp [hz])
      rw [List.mem_cons] at this
      rcases this with rfl | h3
      · exact absurd (h1.1 z hz) (by omega)
      · exact h3
    · intro hz
      have := (h z).2 (by simp [hz])
      rw [List.mem_cons] at this
      rcases this with rfl | h3
      · exact absurd (h2.1 z hz) (by omega)
      · exact h3

/-- the list of f 0, .., f (k - 1) -/
def fmap (f : Nat → Int) (k : Nat) : List Int := (List.range k).map f
theorem fmap_len (f : Nat → Int) (k : Nat) : (fmap f k).length = k := by simp [fmap]
theorem fmap_nth (f : Nat → Int) {k i : Nat} (h : i < k) : nth (fmap f k) i = f i := by simp [nth, fmap, h]
theorem fmap_succ (f : Nat → Int) (k : Nat) : fmap f (k+1) = fmap f k ++ [f k] := by simp [fmap, List.range_succ]
/-- one store more into a row that was made -/
theorem fill_step (f : Nat → Int) (m k : Nat) (h : k < m) :
    ((fmap f k ++ List.replicate (m - k) (0:Int)).map (Value.int .i64)).set k (.int .i64 (f k)) = (fmap f (k+1) ++ List.replicate (m - (k+1)) (0:Int)).map (Value.int .i64) := by
  apply List.ext_getElem?
  intro j
  rw [List.getElem?_set]
  by_cases hj : k = j
  · subst hj
    rw [if_pos rfl, if_pos (by simp [fmap_len]; omega), List.getElem?_map, List.getElem?_append_left (by rw [fmap_len]; omega)]
    simp [fmap]
  · simp only [hj, if_false, List.getElem?_map, List.getElem?_append, fmap_len, List.getElem?_replicate]
    by_cases h1 : j < k
    · have h2 : j < k + 1 := by omega
      simp [h1, h2, fmap]
    · have h2 : ¬ j < k + 1 := by omega
      have h3 : j - k < m - k ↔ j - (k+1) < m - (k+1) := by omega
      simp [h1, h2, h3]
theorem fill_end (f : Nat → Int) (m : Nat) : fmap f m ++ List.replicate (m - m) (0:Int) = fmap f m := by simp
/-- the row that a make of m integers has made -/
theorem made_ints {w1 : World} {B : Nat} {v : Value} {m : Nat} (f : Nat → Int) (h : w1.ownsRow B 3 1 v m (madeCells (Value.int .i64 0).cells (m * 1)).toList) :
    w1.ownsRow B 3 1 v m ((fmap f 0 ++ List.replicate (m - 0) (0:Int)).map (Value.int .i64)) := by
  simpa [Value.cells, toList_madeCells_one, fmap] using h

/-- the different numbers among the first k, in order -/
def seenTo (xs : List Int) : Nat → List Int
  | 0 => []
  | k+1 => putL (seenTo xs k) (nth xs k)
theorem seenTo_len (xs : List Int) : ∀ k, (seenTo xs k).length ≤ k
  | 0 => by simp [seenTo]
  | k+1 => by
    have h1 := seenTo_len xs k
    have h2 := putL_len (seenTo xs k) (nth xs k)
    simp only [seenTo]
    omega
theorem seenTo_inc (xs : List Int) : ∀ k, Inc (seenTo xs k)
  | 0 => List.Pairwise.nil
  | k+1 => putL_inc (seenTo_inc xs k) _
theorem seenTo_mem (xs : List Int) (x : Int) : ∀ k, x ∈ seenTo xs k ↔ ∃ j, j < k ∧ nth xs j = x
  | 0 => by simp [seenTo]
  | k+1 => by
    rw [seenTo, putL_mem, seenTo_mem xs x k]
    constructor
    · rintro (h | ⟨j, h1, h2⟩)
      · exact ⟨k, by omega, h.symm⟩
      · exact ⟨j, by omega, h2⟩
    · rintro ⟨j, h1, h2⟩
      by_cases e : j = k
      · subst e; exact .inl h2.symm
      · exact .inr ⟨j, by omega, h2⟩
def lvbE (xs : List Int) (k : Nat) : Int := ((putK (seenTo xs xs.length) (nth xs k) : Nat) : Int)
/-- the levels of numbers -/
def lvbL (xs : List Int) : List Int := fmap (lvbE xs) xs.length
theorem lvbL_len (xs : List Int) : (lvbL xs).length = xs.length := fmap_len _ _
theorem putK_at : ∀ (l : List Int) (x : Int) (p : Nat), p ≤ l.length → (∀ i, i < p → nth l i < x) → (p < l.length → x ≤ nth l p) → putK l x = p
  | [], x, p, hp, _, _ => by simp at hp; simp [putK, hp]
  | y :: ys, x, 0, _, _, h3 => by
    have := h3 (by simp)
    simp only [nth, List.getD_cons_zero] at this
    simp only [putK]
    rw [if_neg (by omega)]
  | y :: ys, x, p+1, hp, h2, h3 => by
    have h0 := h2 0 (by omega)
    simp only [nth, List.getD_cons_zero] at h0
    simp only [putK, if_pos h0]
    rw [putK_at ys x p (by simpa using hp) (fun i hi => by have := h2 (i+1) (by omega); simpa [nth] using this) (fun h => by have := h3 (by simpa using h); simpa [nth] using this)]
theorem putK_mem {l : List Int} {x : Int} (hi : Inc l) (h : x ∈ l) : putK l x < l.length ∧ nth l (putK l x) = x := by
  obtain ⟨j, hj, e⟩ : ∃ j, j < l.length ∧ nth l j = x := by
    obtain ⟨j, hj, e⟩ := List.getElem_of_mem h
    exact ⟨j, hj, by rw [nth_get l j hj, e]⟩
  have hk : putK l x = j := by
    refine putK_at l x j (by omega) (fun i hij => ?_) (fun _ => by omega)
    rw [← e, nth_get _ _ (by omega), nth_get _ _ hj]
    exact (List.pairwise_iff_getElem.1 hi) i j (by omega) hj hij
  rw [hk]
  exact ⟨hj, e⟩

def sgnI (x y : Int) : Int := if x < y then -1 else if x > y then 1 else 0
theorem sgnI_bd (x y : Int) : -1 ≤ sgnI x y ∧ sgnI x y ≤ 1 := by
  unfold sgnI
  split
  · omega
  · split <;> omega
/-- how many more of the first k voters have j higher than i -/
def leadTo (xss : List (List Int)) (i j : Nat) : Nat → Int
  | 0 => 0
  | k+1 => leadTo xss i j k + sgnI (nth (rowL xss k) j) (nth (rowL xss k) i)
theorem leadTo_bd (xss : List (List Int)) (i j : Nat) : ∀ k : Nat, -(k : Int) ≤ leadTo xss i j k ∧ leadTo xss i j k ≤ (k : Int)
  | 0 => by simp [leadTo]
  | k+1 => by
    have h1 := leadTo_bd xss i j k
    have h2 := sgnI_bd (nth (rowL xss k) j) (nth (rowL xss k) i)
    simp only [leadTo]
    omega
def majTo (xss : List (List Int)) (i : Nat) : Nat → Nat
  | 0 => 0
  | j+1 => if 0 < leadTo xss i j xss.length then majTo xss i j ||| 2 ^ j else majTo xss i j
theorem majTo_lt (xss : List (List Int)) (i : Nat) : ∀ j, majTo xss i j < 2 ^ j
  | 0 => by simp [majTo]
  | j+1 => by
    have h := majTo_lt xss i j
    have h2 : 2 ^ j < 2 ^ (j+1) := two_lt (by omega)
    simp only [majTo]
    split
    · exact or_lt (by omega) h2
    · omega
theorem majTo_small (xss : List (List Int)) (i : Nat) {j : Nat} (h : j ≤ 10) : majTo xss i j < 1024 := by
  have h1 := majTo_lt xss i j
  have h2 : 2 ^ j ≤ 2 ^ 10 := Nat.pow_le_pow_right (by omega) h
  omega
def majE (xss : List (List Int)) (n i : Nat) : Int := ((majTo xss i n : Nat) : Int)
def mjN (xss : List (List Int)) : Int := if vtB xss then ((rowL xss 0).length : Int) else 0
def mjL (xss : List (List Int)) : List Int := if vtB xss then fmap (majE xss (rowL xss 0).length) (rowL xss 0).length else []
theorem vt_ten {xss : List (List Int)} (h : vtB xss = true) : (rowL xss 0).length ≤ 10 := by
  obtain ⟨h1, _, h3⟩ := vtB_iff.1 h
  exact (lvB_iff.1 (vtOk_iff.1 (h3 0 (by omega))).1).1
theorem mjL_len (xss : List (List Int)) : (mjL xss).length ≤ 1048576 := by
  unfold mjL
  split
  · rename_i h; have := vt_ten h; rw [fmap_len]; omega
  · simp

/-- a row of m integers of which the first k are filled, f 0 .. -/
def rowF (f : Nat → Int) (m k : Nat) : List Int := fmap f k ++ List.replicate (m - k) 0
theorem rowF_len (f : Nat → Int) {m k : Nat} (h : k ≤ m) : (rowF f m k).length = m := by simp [rowF, fmap_len]; omega
theorem rowF_set (f : Nat → Int) {m k : Nat} (h : k < m) : (rowF f m k).set k (f k) = rowF f m (k+1) := by
  apply List.ext_getElem?
  intro j
  rw [List.getElem?_set]
  by_cases hj : k = j
  · subst hj
    rw [if_pos rfl, if_pos (by rw [rowF_len f (by omega)]; exact h), rowF, List.getElem?_append_left (by rw [fmap_len]; omega)]
    simp [fmap]
  · simp only [hj, if_false, rowF, List.getElem?_append, fmap_len, List.getElem?_replicate]
    by_cases h1 : j < k
    · have h2 : j < k + 1 := by omega
      simp [h1, h2, fmap]
    · have h2 : ¬ j < k + 1 := by omega
      have h3 : j - k < m - k ↔ j - (k+1) < m - (k+1) := by omega
      simp [h1, h2, h3]
theorem rowF_zero (f : Nat → Int) {m k : Nat} (h : k < m) : (rowF f m k).set k 0 = rowF f m k := by
  apply List.ext_getElem?
  intro j
  rw [List.getElem?_set]
  by_cases hj : k = j
  · subst hj
    rw [if_pos rfl, if_pos (by rw [rowF_len f (by omega)]; exact h), rowF, List.getElem?_append_right (by rw [fmap_len]; omega)]
    rw [fmap_len, Nat.sub_self, List.getElem?_replicate, if_pos (by omega)]
  · simp [hj]
theorem rowF_end (f : Nat → Int) (m : Nat) : rowF f m m = fmap f m := by simp [rowF]
theorem made_row {w1 : World} {B : Nat} {v : Value} {m : Nat} (f : Nat → Int) (h : w1.ownsRow B 3 1 v m (madeCells (Value.int .i64 0).cells (m * 1)).toList) : OwnI w1 B v (rowF f m 0) := by
  unfold OwnI
  rw [rowF_len f (Nat.zero_le _)]
  simpa [Value.cells, toList_madeCells_one, fmap, rowF] using h

/-- what the first k voters tell of an element together -/
def sumTo (xss : List (List Int)) : Nat → Nat → Int
  | 0, _ => 0
  | k+1, i => sumTo xss k i + nth (rowL xss k) i
theorem sumTo_bd {xss : List (List Int)} {i : Nat} : ∀ {k : Nat}, (∀ m, m < k → 0 ≤ nth (rowL xss m) i ∧ nth (rowL xss m) i ≤ 10) → 0 ≤ sumTo xss k i ∧ sumTo xss k i ≤ 10 * (k : Int)
  | 0, _ => by simp [sumTo]
  | k+1, h => by
    have h1 := sumTo_bd (i := i) (k := k) (fun m hm => h m (by omega))
    have h2 := h k (by omega)
    simp only [sumTo]
    omega
/-- the sums when voter k has been added up to element j -/
def sumMid (xss : List (List Int)) (k j i : Nat) : Int := if i < j then sumTo xss (k+1) i else sumTo xss k i
theorem mid_zero (xss : List (List Int)) (k n : Nat) : fmap (sumMid xss k 0) n = fmap (sumTo xss k) n := by
  unfold fmap
  apply List.map_congr_left
  intro i hi
  simp [sumMid]
theorem mid_full (xss : List (List Int)) (k n : Nat) : fmap (sumMid xss k n) n = fmap (sumTo xss (k+1)) n := by
  unfold fmap
  apply List.map_congr_left
  intro i hi
  have := List.mem_range.1 hi
  simp [sumMid, this]
theorem mid_step (xss : List (List Int)) (k n j : Nat) (h : j < n) : (fmap (sumMid xss k j) n).set j (sumTo xss (k+1) j) = fmap (sumMid xss k (j+1)) n := by
  apply List.ext_getElem?
  intro i
  rw [List.getElem?_set]
  by_cases e : j = i
  · subst e
    rw [if_pos rfl, if_pos (by rw [fmap_len]; exact h)]
    simp [fmap, h, sumMid]
  · rw [if_neg e]
    simp only [fmap, List.getElem?_map]
    by_cases hi : i < n
    · rw [List.getElem?_range hi]
      simp only [Option.map_some, sumMid]
      by_cases h1 : i < j
      · rw [if_pos h1, if_pos (by omega)]
      · rw [if_neg h1, if_neg (by omega)]
    · rw [List.getElem?_eq_none (by simp; omega)]; rfl
theorem sum_zero (xss : List (List Int)) (n : Nat) : rowF (fun _ => 0) n 0 = fmap (sumTo xss 0) n := by
  apply List.ext_getElem?
  intro i
  simp only [rowF, fmap, List.range_zero, List.map_nil, List.nil_append, Nat.sub_zero, List.getElem?_replicate, List.getElem?_map]
  by_cases hi : i < n
  · rw [if_pos hi, List.getElem?_range hi]; rfl
  · rw [if_neg hi, List.getElem?_eq_none (by simp; omega)]; rfl
def mnL (xss : List (List Int)) : List Int := if vtB xss then lvbL (fmap (sumTo xss xss.length) (rowL xss 0).length) else []
theorem mnL_len (xss : List (List Int)) : (mnL xss).length ≤ 1048576 := by
  unfold mnL
  split
  · rename_i h; have := vt_ten h; rw [lvbL_len, fmap_len]; omega
  · simp

theorem l1In_any (n lo hi : Int) (w : World) :
    Calls Try.prog 42 #[.int .i64 n, .int .i64 lo, .int .i64 hi] w fun e w' => e = .returned (.bool (inB n lo hi)) ∧ w = w' := by
  go_enter Try.func42, Try.ntmps42
  go_wp2
  all_goals (go_ret; exact ⟨ret_bool (by simp [inB]; try omega), rfl⟩)
theorem l1In_is {n lo hi : Int} {b : Bool} (h : inB n lo hi = b) (w : World) (m : Nat) :
    Calls Try.prog 42 #[.int .i64 n, .int .i64 lo, .int .i64 hi] (w.drewN m) fun e w' => e = .returned (.bool b) ∧ ∃ k, w' = w.drewN k :=
  Calls.quiet_of_same ((l1In_any n lo hi (w.drewN m)).mono (fun e w' hh => ⟨by rw [← h]; exact hh.1, hh.2.symm⟩))

theorem l1All_any (a : Option Addr) (xs : List Int) (cap : Nat) (lo hi : Int) (w : World) (hx : Rd w a xs) :
    Calls Try.prog 51 #[.slice a xs.length cap, .int .i64 lo, .int .i64 hi] w fun e w' => e = .returned (.bool (allB xs lo hi)) ∧ w = w' := by
  have hlen := hx.len
  go_enter Try.func51, Try.ntmps51
  go_wp2_with fail
  go_loop [11] (fun i => ∃ k : Nat, k ≤ xs.length ∧ i = .int .i64 k ∧ allB (xs.take k) lo hi = true) (fun i => xs.length - (intOf i).toNat)
  case atStart => exact ⟨0, Nat.zero_le _, rfl, rfl⟩
  case round =>
    obtain ⟨k, hk, rfl, hall⟩ := hrel
    by_cases hlt : k < xs.length
    · obtain ⟨b, off, rfl, hbl, hc⟩ := hx.cell k hlt
      cases hin : inB (nth xs k) lo hi
      · have hf := Lib.hid (allB_false hlt hin)
        go_wp2_with (go_at_call 42; refine (l1In_any _ _ _ _).mono ?_; rintro e w' ⟨rfl, rfl⟩)
        go_ret
        exact ⟨ret_bool hf.out.symm, rfl⟩
      · go_wp2_with (go_at_call 42; refine (l1In_any _ _ _ _).mono ?_; rintro e w' ⟨rfl, rfl⟩)
        go_round
        case rel => exact ⟨k + 1, by omega, by go_num, by rw [allB_take _ _ _ _ hlt, hall, hin]; rfl⟩
        case measure => simp [intOf]; omega
    · go_wp2_with fail
      go_ret
      exact ⟨ret_bool (by rw [← hall, List.take_of_length_le (by omega)]), rfl⟩
theorem l1All_is {a : Option Addr} {xs : List Int} {cap : Nat} {lo hi : Int} {b : Bool} {w : World} (hx : Rd w a xs) (h : allB xs lo hi = b) (m : Nat) :
    Calls Try.prog 51 #[.slice a xs.length cap, .int .i64 lo, .int .i64 hi] (w.drewN m) fun e w' => e = .returned (.bool b) ∧ ∃ k, w' = w.drewN k :=
  Calls.quiet_of_same ((l1All_any a xs cap lo hi (w.drewN m) (hx.below (Joins.below_draws _ _ _))).mono (fun e w' hh => ⟨by rw [← h]; exact hh.1, hh.2.symm⟩))

theorem weLevels_any (a : Option Addr) (xs : List Int) (cap : Nat) (w : World) (hx : Rd w a xs) :
    Calls Try.prog 32 #[.slice a xs.length cap] w fun e w' => e = .returned (.bool (lvB xs)) ∧ w = w' := by
  have hlen := hx.len
  by_cases hl : xs.length ≤ 10
  · go_enter Try.func32, Try.ntmps32
    go_wp2_with fail
    refine (l1All_any _ _ _ _ _ _ hx).mono ?_
    rintro e w' ⟨rfl, rfl⟩
    cases ha : allB xs 0 10
    · have HO : Hid (lvB xs = false) := by
        rw [Hid, ← Bool.not_eq_true]
        intro h
        rw [(lvB_iff.1 h).2.1] at ha
        cases ha
      clear ha
      go_wp2_with fail
      go_ret
      exact ⟨ret_bool HO.out.symm, rfl⟩
    · have HB := Lib.hid ha
      clear ha
      go_wp2_with fail
      go_loop [15] (fun i => ∃ k : Nat, k ≤ xs.length ∧ i = .int .i64 k ∧ ∀ j, j < k → lvOk xs j = true) (fun i => xs.length - (intOf i).toNat)
      case atStart => exact ⟨0, Nat.zero_le _, rfl, fun j hj => by omega⟩
      case round =>
        obtain ⟨k, hk, rfl, hall⟩ := hrel
        have HA := Lib.hid hall
        clear hall
        by_cases hlt : k < xs.length
        · have ⟨n0, n1⟩ := allB_nth HB.out hlt
          have hx2 := hx
          obtain ⟨b, off, rfl, hbl, hc⟩ := hx.cell k hlt
          by_cases hp : 0 < nth xs k
          · have HK : Hid (lvOk xs k = memB xs (nth xs k - 1)) := by
              have : decide (nth xs k ≤ 0) = false := by simp; omega
              simp [Hid, lvOk, this]
            go_wp2_with fail
            refine (l1Has_any _ _ _ _ _ hx2).mono ?_
            rintro e w' ⟨rfl, rfl⟩
            cases hm : memB xs (nth xs k - 1)
            · have HO : Hid (lvB xs = false) := by
                rw [Hid, ← Bool.not_eq_true]
                intro h
                have := (lvB_iff.1 h).2.2 k hlt
                rw [HK.out, hm] at this
                cases this
              clear hm
              go_wp2_with fail
              go_ret
              exact ⟨ret_bool HO.out.symm, rfl⟩
            · have HM : Hid (lvOk xs k = true) := by rw [Hid, HK.out]; exact hm
              clear hm
              go_wp2_with fail
              go_round
              case rel =>
                refine ⟨k + 1, by omega, by go_num, fun j hj => ?_⟩
                by_cases e : j = k
                · rw [e]; exact HM.out
                · exact HA.out j (by omega)
              case measure => simp [intOf]; omega
          · have HM : Hid (lvOk xs k = true) := by
              have : decide (nth xs k ≤ 0) = true := by simp; omega
              simp [Hid, lvOk, this]
            go_wp2_with fail
            go_round
            case rel =>
              refine ⟨k + 1, by omega, by go_num, fun j hj => ?_⟩
              by_cases e : j = k
              · rw [e]; exact HM.out
              · exact HA.out j (by omega)
            case measure => simp [intOf]; omega
        · obtain rfl : k = xs.length := by omega
          have HO : Hid (lvB xs = true) := lvB_iff.2 ⟨hl, HB.out, HA.out⟩
          go_wp2_with fail
          go_ret
          exact ⟨ret_bool HO.out.symm, rfl⟩
  · have HO : Hid (lvB xs = false) := by
      rw [Hid, ← Bool.not_eq_true]
      intro h
      exact hl (lvB_iff.1 h).1
    go_enter Try.func32, Try.ntmps32
    go_wp2_with fail
    go_ret
    exact ⟨ret_bool HO.out.symm, rfl⟩

theorem weVoters_any (a : Option Addr) (xss : List (List Int)) (cap : Nat) (w : World) (hx : RdS w a xss) :
    Calls Try.prog 27 #[.slice a xss.length cap] w fun e w' => e = .returned (.bool (vtB xss)) ∧ w = w' := by
  have hlen := hx.len
  go_enter Try.func27, Try.ntmps27
  go_wp2_with fail
  go_loop [7] (fun i => ∃ k : Nat, k ≤ xss.length ∧ i = .int .i64 k ∧ ∀ j, j < k → vtOk xss j = true) (fun i => xss.length - (intOf i).toNat)
  case atStart => exact ⟨0, Nat.zero_le _, rfl, fun j hj => by omega⟩
  case round =>
    obtain ⟨k, hk, rfl, hall⟩ := hrel
    have HA := Lib.hid hall
    clear hall
    by_cases hlt : k < xss.length
    · obtain ⟨b, off, a1, cap1, rfl, hbl, hc, hr⟩ := hx.row k hlt
      obtain ⟨b2, off2, a2, cap2, e2, hbl2, hc2, hr2⟩ := hx.row 0 (by omega)
      simp only [Option.some.injEq, Addr.mk.injEq, and_true] at e2
      obtain ⟨rfl, rfl⟩ := e2
      rw [Nat.add_zero] at hc2
      have k1 : (k : Int) < (xss.length : Int) := by omega
      have z1 : (0 : Int) < (xss.length : Int) := by omega
      go_wp2_with fail
      refine (weLevels_any _ _ _ _ hr).mono ?_
      rintro e w' ⟨rfl, rfl⟩
      cases hv : lvB (rowL xss k)
      · have H := Lib.hid (vt_no hlt (by simp [vtOk, hv]))
        clear hv
        go_wp2_with fail
        go_ret
        exact ⟨ret_bool H.out.symm, rfl⟩
      · by_cases hq : (rowL xss k).length = (rowL xss 0).length
        · have H : Hid (vtOk xss k = true) := vtOk_iff.2 ⟨hv, hq⟩
          have hqq : (((rowL xss k).length : Int) != ((rowL xss 0).length : Int)) = false := by simp [hq]
          clear hv hq
          go_wp2_with fail
          go_round
          case rel =>
            refine ⟨k + 1, by omega, by go_num, fun j hj => ?_⟩
            by_cases e : j = k
            · rw [e]; exact H.out
            · exact HA.out j (by omega)
          case measure => simp [intOf]; omega
        · have H := Lib.hid (vt_no hlt (by simp [vtOk, hq]))
          have hqq : (((rowL xss k).length : Int) != ((rowL xss 0).length : Int)) = true := by simp; omega
          clear hv hq
          go_wp2_with fail
          go_ret
          exact ⟨ret_bool H.out.symm, rfl⟩
    · obtain rfl : k = xss.length := by omega
      have H : Hid (inB (xss.length : Int) 1 15 = vtB xss) := by
        rw [Hid, Bool.eq_iff_iff, inB_iff, vtB_iff]
        constructor
        · rintro ⟨h1, h2⟩; exact ⟨by omega, by omega, HA.out⟩
        · rintro ⟨h1, h2, _⟩; omega
      go_wp2_with fail
      refine (l1In_any _ _ _ _).mono ?_
      rintro e w' ⟨rfl, rfl⟩
      go_wp2_with fail
      go_ret
      exact ⟨ret_bool H.out, rfl⟩

theorem wpList_append_none {P : Program} {w : World} {ops : Array Oper} {rest : List Oper} {o : Oper} {a : Act} {Q : Exit → Act → World → Prop} (hgd : o.guard = none) (s x : Operand) (t : TypeId)
    (ho : o.op = .call { callee := .builtin .append, args := #[s, x], argTypes := #[t, t] })
    (base : Nat) (e : TypeId) (i : TypeInfo) (size : Nat) (ht : P.underlying t = some (.slice e)) (hi : P.info? e = some i)
    (v : Value) (n c : Nat) (xs : List Value) (hs : a.eval s = v) (hown : w.ownsRow base e size v n xs) (hx : a.eval x = .slice none 0 c)
    (h : wpList P ops Q rest (a.put o.dst v) w) : wpList P ops Q (o :: rest) a w := by
  refine wpList_plain hgd fun K hK => ?_
  have hrun : (Builtin.append_ #[t, t] o.type #[v, .slice none 0 c]).run P w = .ok v w := by
    rcases hown.2 with ⟨rfl, rfl⟩ | ⟨g, cap, cur, rfl, _, _, hnc, _⟩
    · simp [Builtin.append_, run_underlying ht, sizeOf, typeInfo, hi, Builtin.lenOf, Builtin.firstCells]
    · simp [Builtin.append_, run_underlying ht, sizeOf, typeInfo, hi, Builtin.lenOf, Builtin.firstCells, hnc, storeCells]
  unfold Oper.wp
  simp [execOp, ho, resolve, invoke, builtin, hs, hx, hrun, Result.andThen]
  exact hK _ _ h
theorem rd_news {w : World} {ad : Addr} {xs : List Int} (hx : Rd w (some ad) xs) : ∀ j u, (xs.map (Value.int .i64))[j]? = some u → w.cell? (ad.add j) = some u := by
  intro j u hj
  rw [List.getElem?_map, Option.map_eq_some_iff] at hj
  obtain ⟨x, hx1, rfl⟩ := hj
  obtain ⟨hlt, e⟩ := List.getElem?_eq_some_iff.1 hx1
  obtain ⟨b, off, e1, _, hc⟩ := hx.cell j hlt
  simp only [Option.some.injEq] at e1
  subst e1
  rw [Addr.add_lit, hc, nth_get xs j hlt, e]
theorem ints_one (xs : List Int) : ∀ u ∈ xs.map (Value.int .i64), u.oneCell' = true := by
  intro u hu
  obtain ⟨x, _, rfl⟩ := List.mem_map.1 hu
  rfl

theorem OwnI.capLe {w : World} {B n cap : Nat} {a : Option Addr} {xs : List Int} (h : OwnI w B (.slice a n cap) xs) : n ≤ cap := by
  rcases h.2 with ⟨e, _⟩ | ⟨g, cap', cur, e, _, _, hc, _⟩
  · simp only [Value.slice.injEq] at e
    omega
  · simp only [Value.slice.injEq] at e
    omega
theorem Rd.take {w : World} {a : Option Addr} {xs : List Int} (h : Rd w a xs) (k : Nat) : Rd w a (xs.take k) :=
  ⟨Nat.le_trans (by rw [List.length_take]; exact Nat.min_le_right _ _) h.len, fun j hj => by
    have hj' : j < xs.length ∧ j < k := by rw [List.length_take] at hj; omega
    obtain ⟨b, off, e, hl, hc⟩ := h.cell j hj'.1
    refine ⟨b, off, e, hl, hc.trans ?_⟩
    simp [nth, List.getD_eq_getElem?_getD, List.getElem?_take, hj'.2]⟩

theorem Rd.drop {w : World} {ad : Addr} {xs : List Int} (h : Rd w (some ad) xs) (k : Nat) : Rd w (some (ad.add k)) (xs.drop k) :=
  ⟨Nat.le_trans (by rw [List.length_drop]; omega) h.len, fun j hj => by
    have hj' : k + j < xs.length := by rw [List.length_drop] at hj; omega
    obtain ⟨b, off, e, hl, hc⟩ := h.cell (k + j) hj'
    simp only [Option.some.injEq] at e
    subst e
    refine ⟨b, off + k, by rw [Addr.add_lit], hl, ?_⟩
    rw [Nat.add_assoc, hc]
    simp [nth, List.getD_eq_getElem?_getD, List.getElem?_drop]⟩

theorem OwnI.new (w : World) (xs : List Int) (h : xs.length ≤ 1048576) : OwnI (w.alloc (.cells (xs.map (Value.int .i64)).toArray 3)) w.heap.size (.slice (some ⟨w.heap.size, 0, none⟩) xs.length xs.length) xs :=
  ⟨by simp, .inr ⟨w.heap.size, xs.length, (xs.map (Value.int .i64)).toArray, rfl, Nat.le_refl _, heap_alloc_new w _, Nat.le_refl _, by unfold maxLen; omega, by simp, by simp [List.take_of_length_le]⟩⟩

theorem putL_at {l : List Int} {x : Int} (h : ¬(putK l x < l.length ∧ nth l (putK l x) = x)) : putL l x = l.take (putK l x) ++ [x] ++ l.drop (putK l x) := by
  rw [putL, if_neg h]
set_option maxRecDepth 100000 in
theorem l1Put_any (a : Option Addr) (l : List Int) (cap : Nat) (x : Int) (B : Nat) (w : World) (ho : OwnI w B (.slice a l.length cap) l) (hl : l.length ≤ 1048576) (hB : B ≤ w.heap.size) :
    Calls Try.prog 43 #[.slice a l.length cap, .int .i64 x] w fun e w' => ∃ a' cap', e = .returned (.slice a' (putL l x).length cap') ∧ OwnI w' B (.slice a' (putL l x).length cap') (putL l x) ∧ Below w.heap.size w w' := by
  obtain ⟨i0, hi, hz0, hz1, hz2⟩ := info_parts infoInt
  have hcap := ho.capLe
  have hx := ho.rd
  have hkl := putK_le l x
  have hK1 := fun j (h : j < putK l x) => putK_lt l x j h
  have hK2 := putK_ge l x
  have hP1 : (putK l x < l.length ∧ nth l (putK l x) = x) → putL l x = l := fun he => by rw [putL, if_pos he]
  have hP2 := putL_at (l := l) (x := x)
  generalize putK l x = K at *
  generalize putL l x = L at *
  have HK1 := Lib.hid hK1
  have HK2 := Lib.hid hK2
  have HP1 := Lib.hid hP1
  have HP2 := Lib.hid hP2
  have hb0 : Below w.heap.size w w := Below.refl _ _
  clear hK1 hK2 hP1 hP2
  go_enter Try.func43, Try.ntmps43
  go_wp2_with fail
  go_loop [5] (fun i => ∃ k : Nat, k ≤ K ∧ i = .int .i64 k) (fun i => K - (intOf i).toNat)
  case atStart => exact ⟨0, Nat.zero_le _, rfl⟩
  case round =>
    obtain ⟨k, hk, rfl⟩ := hrel
    by_cases hlt : k < K
    · have hkl2 : k < l.length := by omega
      have hkl3 : (k : Int) < (l.length : Int) := by omega
      obtain ⟨b, off, rfl, hbl, hc⟩ := hx.cell k hkl2
      have h1 := HK1.out k hlt
      go_wp2_with fail
      go_round
      case rel => exact ⟨k + 1, by omega, by go_num⟩
      case measure => simp [intOf]; omega
    · obtain rfl : k = K := by omega
      clear hlt hk
      by_cases he : k < l.length ∧ nth l k = x
      · have hpl := he.1
        have hge : ¬ nth l k < x := by rw [he.2]; omega
        have hq : (nth l k == x) = true := by simp [he.2]
        have HP := Lib.hid (HP1.out he)
        obtain ⟨b, off, rfl, hbl, hc⟩ := hx.cell _ hpl
        clear he
        go_wp2_with fail
        refine bodyPost_ret (v := .slice (some ⟨b, off, none⟩) l.length cap) (by simp [results, Try.results43, go_sem]) rfl ?_
        exact ⟨some ⟨b, off, none⟩, cap, by rw [HP.out], by rw [HP.out]; exact ho, hb0⟩
      · have HP := Lib.hid (HP2.out he)
        rcases ho.2 with ⟨e0, h0⟩ | ⟨g, cap', cur, e0, hbg, hgg, hn, hm, hs, ht⟩
        · simp only [Value.slice.injEq] at e0
          obtain ⟨rfl, -, rfl⟩ := e0
          obtain rfl : l = [] := List.length_eq_zero_iff.1 h0
          have hown0 : (w.alloc (.cells #[] 3)).ownsRow w.heap.size 3 1 (.slice (some ⟨w.heap.size, 0, none⟩) 0 0) 0 [] := World.ownsRow_lit w #[] 0 (Nat.le_refl _) (by simp [maxLen]) (by simp)
          obtain rfl : k = 0 := by simpa using hkl
          have HLL := Lib.hid (show L = [x] by rw [HP.out]; rfl)
          have Hown0 := Lib.hid hown0
          clear he hown0
          go_wp2_with (first | (at_builtin; refine wpList_append_own _ rfl _ _ 24 rfl w.heap.size 3 i0 (.int .i64 0) 1 8 Try.underlying24 hi hz0 hz1 hz2 rfl (by decide) (.slice (some ⟨w.heap.size, 0, none⟩) 0 0) 0 [] rfl (Hown0.out.alloc _) ⟨w.heap.size + 1, 0, none⟩ 1 1 [.int .i64 x] rfl rfl (by have h := cell_one_new (w.alloc (.cells #[] 3)) (.int .i64 x) 3; simp only [World.size_alloc] at h; exact h) (by intro u hu; simp at hu; subst hu; rfl) (by unfold maxLen; omega) (by omega) (by simp; omega) ?_) | (at_builtin; refine wpList_append_none rfl _ _ 24 rfl w.heap.size 3 i0 1 Try.underlying24 hi _ 0 _ [] rfl Hown0.out rfl ?_))
          intro v2 w2 ho2 hg2 _
          have hb2 : Below w.heap.size w w2 := Below.grown (w := (w.alloc (.cells #[] 3)).alloc (.cells #[.int .i64 x] 3)) (by repeat (first | exact Below.refl _ _ | assumption | refine Below.alloc ?_ (by first | exact Nat.le_refl _ | (simp only [World.size_alloc, World.size_setCell, World.size_drew]; omega) | omega) _ | refine Below.setCell ?_ (by first | exact Nat.le_refl _ | (simp only [World.size_alloc, World.size_setCell, World.size_drew]; omega) | omega) _ | refine Below.drew ?_)) hg2 (by simp; omega) (fun b e => by simp [Value.ownBlock] at e; omega)
          have ho2' : OwnI w2 w.heap.size v2 [x] := ho2
          obtain ⟨a2, cap2, rfl⟩ := ho2'.form
          have Ho2 := Lib.hid (ho2'.mono hB)
          have Ho3 := Lib.hid ho2
          clear ho2 hg2 ho2'
          go_wp2_with (at_builtin; refine wpList_append_none rfl _ _ 24 rfl w.heap.size 3 i0 1 Try.underlying24 hi _ _ _ _ rfl Ho3.out rfl ?_)
          go_wp2_with fail
          refine bodyPost_ret (v := .slice a2 1 cap2) (by simp [results, Try.results43, go_sem]) rfl ?_
          exact ⟨a2, cap2, by rw [HLL.out]; rfl, by rw [HLL.out]; exact Ho2.out, hb2⟩
        · simp only [Value.slice.injEq] at e0
          obtain ⟨rfl, -, rfl⟩ := e0
          have hgl : g < w.heap.size := (Array.getElem?_eq_some_iff.1 hgg).1
          clear hgg hs ht hn hm
          have hown0 : (w.alloc (.cells #[] 3)).ownsRow w.heap.size 3 1 (.slice (some ⟨w.heap.size, 0, none⟩) 0 0) 0 [] := World.ownsRow_lit w #[] 0 (Nat.le_refl _) (by simp [maxLen]) (by simp)
          by_cases hpl : k < l.length
          · have hge := HK2.out hpl
            have hge2 : ¬ nth l k < x := by omega
            have hq : (nth l k == x) = false := by
              rw [beq_eq_false_iff_ne]; exact fun e => he ⟨hpl, e⟩
            obtain ⟨b, off, e1, hbl, hc⟩ := hx.cell _ hpl
            simp only [Option.some.injEq, Addr.mk.injEq, and_true] at e1
            obtain ⟨rfl, rfl⟩ := e1
            rw [Nat.zero_add] at hc
            have hkc : k < cap := by omega
            have hkc2 : k ≤ cap := by omega
            have Hown0 := Lib.hid hown0
            obtain ⟨T, hT⟩ : ∃ T, T = l.take k := ⟨_, rfl⟩
            obtain ⟨D, hD⟩ : ∃ D, D = l.drop k := ⟨_, rfl⟩
            have HTl := Lib.hid (show T.length = k by rw [hT, List.length_take]; omega)
            have HDl := Lib.hid (show D.length = l.length - k by rw [hD, List.length_drop])
            have HTr : Rd w (some ⟨g, 0, none⟩) T := hT ▸ hx.take k
            have HDr : Rd w (some ⟨g, k, none⟩) D := by have h := hx.drop k; rw [Addr.add_lit, Nat.zero_add] at h; rw [hD]; exact h
            have HLL := Lib.hid (show L = T ++ [x] ++ D by rw [HP.out, hT, hD])
            clear hT hD
            clear he hown0
            go_wp2_with (at_builtin; refine wpList_append_own _ rfl _ _ 24 rfl w.heap.size 3 i0 (.int .i64 0) 1 8 Try.underlying24 hi hz0 hz1 hz2 rfl (by decide) _ 0 [] rfl Hown0.out ⟨g, 0, none⟩ k cap (T.map (Value.int .i64)) rfl (by rw [List.length_map, Nat.mul_one]; exact HTl.out) (rd_news (HTr.below (by repeat (first | exact Below.refl _ _ | assumption | refine Below.alloc ?_ (by first | exact Nat.le_refl _ | (simp only [World.size_alloc, World.size_setCell, World.size_drew]; omega) | omega) _ | refine Below.setCell ?_ (by first | exact Nat.le_refl _ | (simp only [World.size_alloc, World.size_setCell, World.size_drew]; omega) | omega) _ | refine Below.drew ?_)))) (ints_one _) (by unfold maxLen; omega) (by omega) (by simp) ?_)
            intro v1 w1 ho1 hg1 _
            try simp only [Nat.zero_add, List.nil_append] at ho1
            have hb1 : Below w.heap.size w w1 := Below.grown (w := w.alloc (.cells #[] 3)) (by repeat (first | exact Below.refl _ _ | assumption | refine Below.alloc ?_ (by first | exact Nat.le_refl _ | (simp only [World.size_alloc, World.size_setCell, World.size_drew]; omega) | omega) _ | refine Below.setCell ?_ (by first | exact Nat.le_refl _ | (simp only [World.size_alloc, World.size_setCell, World.size_drew]; omega) | omega) _ | refine Below.drew ?_)) hg1 (by simp) (fun b e => by simp [Value.ownBlock] at e; omega)
            clear hg1
            obtain ⟨a1, cap1, rfl⟩ : ∃ a1 cap1, v1 = .slice a1 k cap1 := by
              rcases ho1.2 with ⟨rfl, h0⟩ | ⟨g1, cap1, cur1, rfl, _⟩
              · exact ⟨none, 0, by rw [h0]⟩
              · exact ⟨_, _, rfl⟩
            have Ho1 := Lib.hid ho1
            have zw1 : w.heap.size ≤ w1.heap.size := hb1.size
            clear ho1
            go_wp2_with (at_builtin; refine wpList_append_own _ rfl _ _ 24 rfl w.heap.size 3 i0 (.int .i64 0) 1 8 Try.underlying24 hi hz0 hz1 hz2 rfl (by decide) (.slice a1 k cap1) k (T.map (Value.int .i64)) rfl (Ho1.out.alloc _) ⟨w1.heap.size, 0, none⟩ 1 1 [.int .i64 x] rfl rfl (cell_one_new _ _ _) (by intro u hu; simp at hu; subst hu; rfl) (by unfold maxLen; omega) (by omega) (by simp; omega) ?_)
            intro v2 w2 ho2 hg2 _
            have hb2 : Below w.heap.size w w2 := hb1.trans (below_of_grown (grown_alloc_set hg2) (fun b e => (Ho1.out.lt b e).1) hb1.size)
            clear hg2
            obtain ⟨a2, cap2, rfl⟩ : ∃ a2 cap2, v2 = .slice a2 (k+1) cap2 := by
              rcases ho2.2 with ⟨rfl, h0⟩ | ⟨g1, cap1, cur1, rfl, _⟩
              · exact ⟨none, 0, by rw [h0]⟩
              · exact ⟨_, _, rfl⟩
            have Ho2 := Lib.hid ho2
            clear ho2 Ho1
            go_wp2_with (at_builtin; refine wpList_append_own _ rfl _ _ 24 rfl w.heap.size 3 i0 (.int .i64 0) 1 8 Try.underlying24 hi hz0 hz1 hz2 rfl (by decide) (.slice a2 (k + 1) cap2) (k + 1) (T.map (Value.int .i64) ++ [.int .i64 x]) rfl Ho2.out ⟨g, k, none⟩ (l.length - k) (cap - k) (D.map (Value.int .i64)) rfl (by rw [List.length_map, Nat.mul_one]; exact HDl.out) (rd_news (HDr.below hb2)) (ints_one _) (by unfold maxLen; omega) (by omega) (by have := hb2.size; omega) ?_)
            intro v3 w3 ho3 hg3 _
            have hb3 : Below w.heap.size w w3 := hb2.trans (below_of_grown hg3 (fun b e => (Ho2.out.lt b e).1) hb2.size)
            have hll : L.length = k + 1 + (l.length - k) := by
              have h := congrArg List.length HLL.out
              rw [List.length_append, List.length_append, HTl.out, HDl.out, List.length_singleton] at h
              exact h
            have ho4 : OwnI w3 w.heap.size v3 L := by
              unfold OwnI
              rw [hll, HLL.out, List.map_append, List.map_append, List.append_assoc]
              exact ho3
            obtain ⟨a3, cap3, rfl⟩ := ho4.form
            have Ho4 := Lib.hid (ho4.mono hB)
            clear ho3 hg3 Ho2 ho4 hll
            go_wp2_with fail
            refine bodyPost_ret (v := .slice a3 L.length cap3) (by simp [results, Try.results43, go_sem]) rfl ?_
            exact ⟨a3, cap3, rfl, Ho4.out, hb3⟩
          · obtain rfl : k = l.length := by omega
            have Hown0 := Lib.hid hown0
            have HLL := Lib.hid (show L = l ++ [x] ++ [] by rw [HP.out]; simp)
            clear he hown0 hpl
            by_cases hcl : cap = l.length
            · obtain rfl : cap = l.length := hcl
              go_wp2_with (at_builtin; refine wpList_append_own _ rfl _ _ 24 rfl w.heap.size 3 i0 (.int .i64 0) 1 8 Try.underlying24 hi hz0 hz1 hz2 rfl (by decide) _ 0 [] rfl Hown0.out ⟨g, 0, none⟩ l.length l.length (l.map (Value.int .i64)) rfl (by rw [List.length_map, Nat.mul_one]) (rd_news (hx.below (by repeat (first | exact Below.refl _ _ | assumption | refine Below.alloc ?_ (by first | exact Nat.le_refl _ | (simp only [World.size_alloc, World.size_setCell, World.size_drew]; omega) | omega) _ | refine Below.setCell ?_ (by first | exact Nat.le_refl _ | (simp only [World.size_alloc, World.size_setCell, World.size_drew]; omega) | omega) _ | refine Below.drew ?_)))) (ints_one _) (by unfold maxLen; omega) (by omega) (by simp) ?_)
              intro v1 w1 ho1 hg1 _
              try simp only [Nat.zero_add, List.nil_append] at ho1
              have hb1 : Below w.heap.size w w1 := Below.grown (w := w.alloc (.cells #[] 3)) (by repeat (first | exact Below.refl _ _ | assumption | refine Below.alloc ?_ (by first | exact Nat.le_refl _ | (simp only [World.size_alloc, World.size_setCell, World.size_drew]; omega) | omega) _ | refine Below.setCell ?_ (by first | exact Nat.le_refl _ | (simp only [World.size_alloc, World.size_setCell, World.size_drew]; omega) | omega) _ | refine Below.drew ?_)) hg1 (by simp) (fun b e => by simp [Value.ownBlock] at e; omega)
              clear hg1
              obtain ⟨a1, cap1, rfl⟩ : ∃ a1 cap1, v1 = .slice a1 l.length cap1 := by
                rcases ho1.2 with ⟨rfl, h0⟩ | ⟨g1, cap1, cur1, rfl, _⟩
                · exact ⟨none, 0, by rw [h0]⟩
                · exact ⟨_, _, rfl⟩
              have Ho1 := Lib.hid ho1
              have zw1 : w.heap.size ≤ w1.heap.size := hb1.size
              clear ho1
              go_wp2_with (at_builtin; refine wpList_append_own _ rfl _ _ 24 rfl w.heap.size 3 i0 (.int .i64 0) 1 8 Try.underlying24 hi hz0 hz1 hz2 rfl (by decide) (.slice a1 l.length cap1) l.length (l.map (Value.int .i64)) rfl (Ho1.out.alloc _) ⟨w1.heap.size, 0, none⟩ 1 1 [.int .i64 x] rfl rfl (cell_one_new _ _ _) (by intro u hu; simp at hu; subst hu; rfl) (by unfold maxLen; omega) (by omega) (by simp; omega) ?_)
              intro v2 w2 ho2 hg2 _
              have hb2 : Below w.heap.size w w2 := hb1.trans (below_of_grown (grown_alloc_set hg2) (fun b e => (Ho1.out.lt b e).1) hb1.size)
              clear hg2
              obtain ⟨a2, cap2, rfl⟩ : ∃ a2 cap2, v2 = .slice a2 (l.length+1) cap2 := by
                rcases ho2.2 with ⟨rfl, h0⟩ | ⟨g1, cap1, cur1, rfl, _⟩
                · exact ⟨none, 0, by rw [h0]⟩
                · exact ⟨_, _, rfl⟩
              have Ho2 := Lib.hid ho2
              clear ho2 Ho1
              go_wp2_with (at_builtin; refine wpList_append_own _ rfl _ _ 24 rfl w.heap.size 3 i0 (.int .i64 0) 1 8 Try.underlying24 hi hz0 hz1 hz2 rfl (by decide) (.slice a2 (l.length + 1) cap2) (l.length + 1) (l.map (Value.int .i64) ++ [.int .i64 x]) rfl Ho2.out ⟨g, 0, none⟩ 0 0 [] rfl rfl (fun j u hj => by simp at hj) (fun u hu => by simp at hu) (by unfold maxLen; omega) (by omega) (by have := hb2.size; omega) ?_)
              intro v3 w3 ho3 hg3 _
              have hb3 : Below w.heap.size w w3 := hb2.trans (below_of_grown hg3 (fun b e => (Ho2.out.lt b e).1) hb2.size)
              have hll : L.length = l.length + 1 + 0 := by
                have h := congrArg List.length HLL.out
                rw [List.length_append, List.length_append, List.length_nil, List.length_singleton] at h
                exact h
              have ho4 : OwnI w3 w.heap.size v3 L := by
                unfold OwnI
                rw [hll, HLL.out, List.map_append, List.map_append, List.append_assoc]
                simpa using ho3
              obtain ⟨a3, cap3, rfl⟩ := ho4.form
              have Ho4 := Lib.hid (ho4.mono hB)
              clear ho3 hg3 Ho2 ho4 hll
              go_wp2_with fail
              refine bodyPost_ret (v := .slice a3 L.length cap3) (by simp [results, Try.results43, go_sem]) rfl ?_
              exact ⟨a3, cap3, rfl, Ho4.out, hb3⟩
            · have hcl2 : ¬ l.length = cap := fun e => hcl e.symm
              have hcl3 : l.length < cap := by omega
              go_wp2_with (at_builtin; refine wpList_append_own _ rfl _ _ 24 rfl w.heap.size 3 i0 (.int .i64 0) 1 8 Try.underlying24 hi hz0 hz1 hz2 rfl (by decide) _ 0 [] rfl Hown0.out ⟨g, 0, none⟩ l.length cap (l.map (Value.int .i64)) rfl (by rw [List.length_map, Nat.mul_one]) (rd_news (hx.below (by repeat (first | exact Below.refl _ _ | assumption | refine Below.alloc ?_ (by first | exact Nat.le_refl _ | (simp only [World.size_alloc, World.size_setCell, World.size_drew]; omega) | omega) _ | refine Below.setCell ?_ (by first | exact Nat.le_refl _ | (simp only [World.size_alloc, World.size_setCell, World.size_drew]; omega) | omega) _ | refine Below.drew ?_)))) (ints_one _) (by unfold maxLen; omega) (by omega) (by simp) ?_)
              intro v1 w1 ho1 hg1 _
              try simp only [Nat.zero_add, List.nil_append] at ho1
              have hb1 : Below w.heap.size w w1 := Below.grown (w := w.alloc (.cells #[] 3)) (by repeat (first | exact Below.refl _ _ | assumption | refine Below.alloc ?_ (by first | exact Nat.le_refl _ | (simp only [World.size_alloc, World.size_setCell, World.size_drew]; omega) | omega) _ | refine Below.setCell ?_ (by first | exact Nat.le_refl _ | (simp only [World.size_alloc, World.size_setCell, World.size_drew]; omega) | omega) _ | refine Below.drew ?_)) hg1 (by simp) (fun b e => by simp [Value.ownBlock] at e; omega)
              clear hg1
              obtain ⟨a1, cap1, rfl⟩ : ∃ a1 cap1, v1 = .slice a1 l.length cap1 := by
                rcases ho1.2 with ⟨rfl, h0⟩ | ⟨g1, cap1, cur1, rfl, _⟩
                · exact ⟨none, 0, by rw [h0]⟩
                · exact ⟨_, _, rfl⟩
              have Ho1 := Lib.hid ho1
              have zw1 : w.heap.size ≤ w1.heap.size := hb1.size
              clear ho1
              go_wp2_with (at_builtin; refine wpList_append_own _ rfl _ _ 24 rfl w.heap.size 3 i0 (.int .i64 0) 1 8 Try.underlying24 hi hz0 hz1 hz2 rfl (by decide) (.slice a1 l.length cap1) l.length (l.map (Value.int .i64)) rfl (Ho1.out.alloc _) ⟨w1.heap.size, 0, none⟩ 1 1 [.int .i64 x] rfl rfl (cell_one_new _ _ _) (by intro u hu; simp at hu; subst hu; rfl) (by unfold maxLen; omega) (by omega) (by simp; omega) ?_)
              intro v2 w2 ho2 hg2 _
              have hb2 : Below w.heap.size w w2 := hb1.trans (below_of_grown (grown_alloc_set hg2) (fun b e => (Ho1.out.lt b e).1) hb1.size)
              clear hg2
              obtain ⟨a2, cap2, rfl⟩ : ∃ a2 cap2, v2 = .slice a2 (l.length+1) cap2 := by
                rcases ho2.2 with ⟨rfl, h0⟩ | ⟨g1, cap1, cur1, rfl, _⟩
                · exact ⟨none, 0, by rw [h0]⟩
                · exact ⟨_, _, rfl⟩
              have Ho2 := Lib.hid ho2
              clear ho2 Ho1
              go_wp2_with (at_builtin; refine wpList_append_own _ rfl _ _ 24 rfl w.heap.size 3 i0 (.int .i64 0) 1 8 Try.underlying24 hi hz0 hz1 hz2 rfl (by decide) (.slice a2 (l.length + 1) cap2) (l.length + 1) (l.map (Value.int .i64) ++ [.int .i64 x]) rfl Ho2.out ⟨g, l.length, none⟩ 0 (cap - l.length) [] rfl rfl (fun j u hj => by simp at hj) (fun u hu => by simp at hu) (by unfold maxLen; omega) (by omega) (by have := hb2.size; omega) ?_)
              intro v3 w3 ho3 hg3 _
              have hb3 : Below w.heap.size w w3 := hb2.trans (below_of_grown hg3 (fun b e => (Ho2.out.lt b e).1) hb2.size)
              have hll : L.length = l.length + 1 + 0 := by
                have h := congrArg List.length HLL.out
                rw [List.length_append, List.length_append, List.length_nil, List.length_singleton] at h
                exact h
              have ho4 : OwnI w3 w.heap.size v3 L := by
                unfold OwnI
                rw [hll, HLL.out, List.map_append, List.map_append, List.append_assoc]
                simpa using ho3
              obtain ⟨a3, cap3, rfl⟩ := ho4.form
              have Ho4 := Lib.hid (ho4.mono hB)
              clear ho3 hg3 Ho2 ho4 hll
              go_wp2_with fail
              refine bodyPost_ret (v := .slice a3 L.length cap3) (by simp [results, Try.results43, go_sem]) rfl ?_
              exact ⟨a3, cap3, rfl, Ho4.out, hb3⟩

theorem orPlaceI_any (a : Option Addr) (es : List Int) (cap : Nat) (x : Int) (k0 : Nat) (w : World) (hx : Rd w a es) (hk : k0 < es.length) (he : nth es k0 = x) (hl : ∀ j, j < k0 → nth es j < x) :
    Calls Try.prog 44 #[.slice a es.length cap, .int .i64 x] w fun e w' => e = .returned (.int .i64 (k0 : Int)) ∧ w = w' := by
  have hlen := hx.len
  have HL := Lib.hid hl
  have HE := Lib.hid he
  clear hl he
  go_enter Try.func44, Try.ntmps44
  go_wp2_with fail
  go_loop [9] (fun i => ∃ k : Nat, k ≤ k0 ∧ i = .int .i64 k) (fun i => es.length - (intOf i).toNat)
  case atStart => exact ⟨0, Nat.zero_le _, rfl⟩
  case round =>
    obtain ⟨k, hk2, rfl⟩ := hrel
    obtain ⟨b, off, rfl, hbl, hc⟩ := hx.cell k (by omega)
    have k1 : (k : Int) < (es.length : Int) := by omega
    by_cases e : k = k0
    · have hq : (nth es k == x) = true := by rw [e, HE.out]; simp
      have HK := Lib.hid e
      clear e
      go_wp2_with fail
      go_ret
      exact ⟨ret_int (by rw [HK.out]), rfl⟩
    · have hq : (nth es k == x) = false := by have := HL.out k (by omega); simp; omega
      have hk3 : k < k0 := by omega
      clear e
      go_wp2_with fail
      go_round
      case rel => exact ⟨k + 1, by omega, by go_num⟩
      case measure => simp [intOf]; omega

set_option maxRecDepth 100000 in
theorem weOfN_any (a : Option Addr) (xs : List Int) (cap : Nat) (w : World) (hx : Rd w a xs) (hl : xs.length ≤ 1048576) :
    Calls Try.prog 28 #[.slice a xs.length cap] w fun e w' => ∃ a' cap', e = .returned (.slice a' xs.length cap') ∧ OwnI w' w.heap.size (.slice a' xs.length cap') (lvbL xs) ∧ Below w.heap.size w w' := by
  obtain ⟨i0, hi, hz0, hz1, hz2⟩ := info_parts infoInt
  go_enter Try.func28, Try.ntmps28
  go_wp2_with fail
  go_loopw [3, 11] (fun v i wr => ∃ k : Nat, k ≤ xs.length ∧ i = .int .i64 k ∧ OwnI wr w.heap.size v (seenTo xs k) ∧ Below w.heap.size w wr) (fun _ i _ => xs.length - (intOf i).toNat)
  case atStart => exact ⟨0, Nat.zero_le _, rfl, OwnI.nil _ _, Below.refl _ _⟩
  case round =>
    obtain ⟨k, hk, rfl, hown, hb⟩ := hrel
    obtain ⟨av, cv, rfl⟩ := hown.form
    have hsl := seenTo_len xs k
    by_cases hlt : k < xs.length
    · obtain ⟨b1, off1, rfl, hbl1, hc1⟩ := (hx.below hb).cell k hlt
      have HS : Hid (putL (seenTo xs k) (nth xs k) = seenTo xs (k+1)) := rfl
      have k1 : (k : Int) < (xs.length : Int) := by omega
      go_wp2_with fail
      refine (l1Put_any _ _ _ _ _ _ hown (by omega) hb.size).mono ?_
      rw [HS.out]
      rintro e w2 ⟨a2, c2, rfl, ho2, hb2⟩
      go_wp2_with fail
      go_roundw
      case rel => exact ⟨k + 1, by omega, by go_num, ho2, hb.trans (hb2.mono hb.size)⟩
      case measure => simp [intOf]; omega
    · obtain rfl : k = xs.length := by omega
      have hinc := seenTo_inc xs xs.length
      have HM : Hid (∀ j, j < xs.length → nth xs j ∈ seenTo xs xs.length) := fun j hj => (seenTo_mem xs _ _).2 ⟨j, hj, rfl⟩
      have HE : Hid (∀ j, lvbE xs j = ((putK (seenTo xs xs.length) (nth xs j) : Nat) : Int)) := fun j => rfl
      obtain ⟨ys, hys⟩ : ∃ ys, ys = seenTo xs xs.length := ⟨_, rfl⟩
      rw [← hys] at hinc HM HE hown hsl ⊢
      have HYS := Lib.hid hys
      have HINC := Lib.hid hinc
      have hrs := hown.rd
      obtain ⟨ws, hws⟩ : ∃ ws : World, ws = wr := ⟨_, rfl⟩
      rw [← hws] at hb hrs ⊢
      clear hys hinc hown hws
      go_wp2_with fail
      go_loopw [4, 21] (fun v i wr => ∃ k : Nat, k ≤ xs.length ∧ i = .int .i64 k ∧ OwnI wr ws.heap.size v (fmap (lvbE xs) k) ∧ Below ws.heap.size ws wr) (fun _ i _ => xs.length - (intOf i).toNat)
      case atStart => exact ⟨0, Nat.zero_le _, rfl, OwnI.nil _ _, Below.refl _ _⟩
      case round =>
        obtain ⟨j, hj, rfl, hown, hbj⟩ := hrel
        obtain ⟨aw, cw, rfl⟩ := hown.form
        rw [fmap_len] at hown ⊢
        have bwr := hb.trans (hbj.mono hb.size)
        by_cases hlt2 : j < xs.length
        · obtain ⟨b1, off1, rfl, hbl1, hc1⟩ := (hx.below bwr).cell j hlt2
          have j1 : (j : Int) < (xs.length : Int) := by omega
          have ⟨p1, p2⟩ := putK_mem HINC.out (HM.out j hlt2)
          have p3 := putK_lt ys (nth xs j)
          have HP2 := Lib.hid p2
          have HP3 := Lib.hid p3
          have HEj := Lib.hid (HE.out j)
          obtain ⟨p, hp⟩ : ∃ p, p = putK ys (nth xs j) := ⟨_, rfl⟩
          rw [← hp] at p1 HP2 HP3 HEj
          clear p2 p3 hp
          go_wp2_with (first | (go_at_call 44; refine (orPlaceI_any _ _ _ _ p _ (hrs.below hbj) p1 HP2.out (fun i hi => HP3.out i hi)).mono ?_; rintro e w' ⟨rfl, rfl⟩) | (at_builtin; refine wpList_append_own _ rfl _ _ 24 rfl ws.heap.size 3 i0 (.int .i64 0) 1 8 Try.underlying24 hi hz0 hz1 hz2 rfl (by decide) (.slice aw j cw) j ((fmap (lvbE xs) j).map (Value.int .i64)) rfl (by have h := hown.alloc (.cells #[.int .i64 (p : Int)] 3); unfold OwnI at h; rw [fmap_len] at h; exact h) ⟨_, 0, none⟩ 1 1 [.int .i64 (p : Int)] rfl rfl (cell_one_new _ _ _) (by intro u hu; simp at hu; subst hu; rfl) (by unfold maxLen; omega) (by omega) (by have := hbj.size; simp; omega) ?_))
          intro v' w3 hown3 hgrow _
          have hg2 := grown_alloc_set hgrow
          have hU := hown.lt
          have bw3 := hbj.trans (below_of_grown hg2 (fun c e => by have := hU c e; omega) hbj.size)
          have o3 : OwnI w3 ws.heap.size v' (fmap (lvbE xs) (j + 1)) := by
            unfold OwnI
            rw [fmap_len, fmap_succ, List.map_append, HEj.out]
            exact hown3
          clear hown3 hgrow hU
          go_wp2_with fail
          go_roundw
          case rel => exact ⟨j + 1, by omega, by go_num, o3, bw3⟩
          case measure => simp [intOf]; omega
        · obtain rfl : j = xs.length := by omega
          have ho : OwnI wr ws.heap.size (.slice aw xs.length cw) (lvbL xs) := hown
          clear hown
          go_wp2_with fail
          go_ret
          exact ⟨aw, cw, rfl, ho.mono hb.size, bwr⟩

theorem below_grown_none {w w' : World} {B : Nat} (h : w.grownBy w' none) (hB : B ≤ w.heap.size) : Below B w w' :=
  below_of_grown (v := .slice none 0 0) h (fun b e => by simp [Value.ownBlock] at e) hB

/-- one step of the closing: what is above k goes to i, if k is above i -/
def clStep (xs : List Int) (k i : Nat) : List Int := if hasB (nth xs i) k then xs.set i (((nth xs i).toNat ||| (nth xs k).toNat : Nat) : Int) else xs
def clRow (xs : List Int) (k : Nat) : Nat → List Int
  | 0 => xs
  | i+1 => clStep (clRow xs k i) k i
def clAll (xs : List Int) : Nat → List Int
  | 0 => xs
  | k+1 => clRow (clAll xs k) k xs.length
theorem clStep_len (xs : List Int) (k i : Nat) : (clStep xs k i).length = xs.length := by
  unfold clStep; split <;> simp
theorem clRow_len (xs : List Int) (k : Nat) : ∀ i, (clRow xs k i).length = xs.length
  | 0 => rfl
  | i+1 => by rw [clRow, clStep_len, clRow_len xs k i]
theorem clAll_len (xs : List Int) : ∀ k, (clAll xs k).length = xs.length
  | 0 => rfl
  | k+1 => by rw [clAll, clRow_len, clAll_len xs k]
/-- all numbers of a list are sets below 1024 -/
def Small (xs : List Int) : Prop := ∀ k, k < xs.length → 0 ≤ nth xs k ∧ nth xs k < 1024
theorem nth_set {xs : List Int} {i j : Nat} {x : Int} (hi : i < xs.length) : nth (xs.set i x) j = if i = j then x else nth xs j := by
  simp only [nth, List.getD_eq_getElem?_getD, List.getElem?_set]
  by_cases h : i = j
  · subst h; simp [hi]
  · simp [h]
theorem clStep_small {xs : List Int} (h : Small xs) {k i : Nat} (hk : k < xs.length) (hi : i < xs.length) : Small (clStep xs k i) := by
  unfold clStep
  split
  · intro j hj
    rw [nth_set hi]
    have h1 := h i hi
    have h2 := h k hk
    split
    · have : (nth xs i).toNat ||| (nth xs k).toNat < 2 ^ 10 := or_lt (by omega) (by omega)
      omega
    · exact h j (by simpa using hj)
  · exact h
theorem clRow_small {xs : List Int} (h : Small xs) {k : Nat} (hk : k < xs.length) : ∀ i, i ≤ xs.length → Small (clRow xs k i)
  | 0, _ => h
  | i+1, hi => clStep_small (clRow_small h hk i (by omega)) (by rw [clRow_len]; exact hk) (by rw [clRow_len]; omega)
theorem clAll_small {xs : List Int} (h : Small xs) : ∀ k, k ≤ xs.length → Small (clAll xs k)
  | 0, _ => h
  | k+1, hk => clRow_small (clAll_small h k (by omega)) (by rw [clAll_len]; omega) _ (by rw [clAll_len]; omega)
theorem RelP.sm {n : Int} {xs : List Int} (h : RelP n xs) : Small xs := fun k hk => ⟨h.pos k hk, h.small k hk⟩
theorem set_ints (xs : List Int) (i : Nat) (x : Int) : (xs.map (Value.int .i64)).set i (.int .i64 x) = (xs.set i x).map (Value.int .i64) := by
  rw [List.map_set]
/-- a store into an owned row -/
theorem OwnI.put {w : World} {B g n cap : Nat} {xs : List Int} (h : OwnI w B (.slice (some ⟨g, 0, none⟩) n cap) xs) (hn : n = xs.length) (i : Nat) (x : Int) :
    OwnI (w.setCell ⟨g, i, none⟩ (.int .i64 x)) B (.slice (some ⟨g, 0, none⟩) n cap) (xs.set i x) ∧ w.grownBy (w.setCell ⟨g, i, none⟩ (.int .i64 x)) (some g) := by
  subst hn
  have hst := World.ownsRow.stored h i (.int .i64 x)
  rw [set_ints] at hst
  refine ⟨?_, hst.2⟩
  unfold OwnI
  rw [List.length_set]
  exact hst.1
theorem OwnI.at' {w : World} {B g n cap : Nat} {xs : List Int} (h : OwnI w B (.slice (some ⟨g, 0, none⟩) n cap) xs) (hn : n = xs.length) {i : Nat} (hi : i < xs.length) :
    w.cell? ⟨g, i, none⟩ = some (.int .i64 (nth xs i)) ∧ w.frozen? ⟨g, i, none⟩ = false := by
  subst hn
  refine ⟨?_, World.ownsRow.frozenAt h i⟩
  rw [World.ownsRow.cellAt h i (by omega)]
  simp [nth, hi]
theorem OwnI.head {w : World} {B n cap : Nat} {a : Option Addr} {xs : List Int} (h : OwnI w B (.slice a n cap) xs) (hp : 0 < xs.length) : ∃ g, a = some ⟨g, 0, none⟩ ∧ B ≤ g ∧ g < w.heap.size := by
  rcases h.2 with ⟨e, h0⟩ | ⟨g, c, cur, e, hb, hg, _⟩
  · omega
  · simp only [Value.slice.injEq] at e
    exact ⟨g, e.1, hb, (Array.getElem?_eq_some_iff.1 hg).1⟩
def cloN (n : Int) (xs : List Int) : Int := if relB n xs then n else 0
def cloL (n : Int) (xs : List Int) : List Int := if relB n xs then clAll xs xs.length else []
theorem cloL_len (n : Int) (xs : List Int) : (cloL n xs).length ≤ 1048576 := by
  unfold cloL
  split
  · rename_i h
    have hp := relB_p h
    have := hp.len
    have := hp.n1
    rw [clAll_len]
    omega
  · simp

set_option maxRecDepth 100000 in
theorem sMean_any (a : Option Addr) (xss : List (List Int)) (cap : Nat) (w : World) (hx : RdS w a xss) :
    Calls Try.prog 7 #[.slice a xss.length cap] w fun e w' => ∃ a' cap', e = .returned (.tuple #[.slice a' (mnL xss).length cap', .bool (vtB xss)]) ∧ OwnI w' w.heap.size (.slice a' (mnL xss).length cap') (mnL xss) ∧ Below w.heap.size w w' := by
  obtain ⟨i0, hi, hz0, hz1, hz2⟩ := info_parts infoInt
  have hlen := hx.len
  go_enter Try.func7, Try.ntmps7
  go_wp2_with fail
  refine (weVoters_any _ _ _ _ hx).mono ?_
  rintro e w' ⟨rfl, rfl⟩
  cases hv : vtB xss
  · have HL : Hid (mnL xss = []) := by simp [Hid, mnL, hv]
    have HB := Lib.hid hv
    clear hv
    go_wp2_with fail
    refine bodyPost_ret (v := .tuple #[.slice none 0 0, .bool false]) (by simp [results, Try.results7, go_sem]) rfl ?_
    exact ⟨none, 0, by rw [HL.out, HB.out]; rfl, by rw [HL.out]; exact OwnI.nil _ _, Below.refl _ _⟩
  · have ⟨l1, l15, hall⟩ := vtB_iff.1 hv
    have n10 := vt_ten hv
    have HL : Hid (mnL xss = lvbL (fmap (sumTo xss xss.length) (rowL xss 0).length)) := by simp [Hid, mnL, hv]
    have HB := Lib.hid hv
    have HLEN : Hid (∀ k, k < xss.length → (rowL xss k).length = (rowL xss 0).length) := fun k hk => (vtOk_iff.1 (hall k hk)).2
    have HLV : Hid (∀ k, k < xss.length → lvB (rowL xss k) = true) := fun k hk => (vtOk_iff.1 (hall k hk)).1
    obtain ⟨n, hn⟩ : ∃ n, n = (rowL xss 0).length := ⟨_, rfl⟩
    rw [← hn] at n10 HL HLEN
    have HN := Lib.hid hn
    obtain ⟨b, off, a0, cap0, rfl, hbl, hc0, hr0⟩ := hx.row 0 (by omega)
    rw [Nat.add_zero, ← hn] at hc0
    have z1 : (0 : Int) < (xss.length : Int) := by omega
    clear hv hall hn hr0
    go_wp2_with (at_make; refine wpList_make_full _ rfl (.tmp 15) (.tmp 15) 24 rfl w.heap.size 3 i0 (.int .i64 0) 1 Try.underlying24 hi hz0 hz1 .i64 .i64 _ _ n rfl rfl rfl rfl (by rw [hz2]; omega) (by unfold maxLen; omega) (Nat.le_refl _) ?_; intro w3 hown hgrow)
    have b3 : Below w.heap.size w w3 := below_grown_none hgrow (Nat.le_refl _)
    have hown0 := made_row (fun _ => 0) hown
    rw [show rowF (fun _ => 0) n 0 = fmap (sumTo xss 0) n from sum_zero xss n] at hown0
    clear hown hgrow hc0
    go_wp2_with fail
    go_loopw [19] (fun i wr => ∃ k : Nat, k ≤ xss.length ∧ i = .int .i64 k ∧ OwnI wr w.heap.size (.slice (some ⟨w.heap.size, 0, none⟩) n n) (fmap (sumTo xss k) n) ∧ Below w.heap.size w wr) (fun i _ => xss.length - (intOf i).toNat)
    case atStart => exact ⟨0, Nat.zero_le _, rfl, hown0, b3⟩
    case round =>
      clear b3 hown0
      obtain ⟨k, hk, rfl, hown, hb⟩ := hrel
      by_cases hlt : k < xss.length
      · have k1 : (k : Int) < (xss.length : Int) := by omega
        obtain ⟨b2, off2, a2, cap2, e2, hbl2, hcw, hrw⟩ := hx.row k hlt
        rw [HLEN.out k hlt] at hcw
        simp only [Option.some.injEq, Addr.mk.injEq, and_true] at e2
        obtain ⟨rfl, rfl⟩ := e2
        have hc2 := (hb.cell (p := ⟨b, off + k, none⟩) hbl2).trans hcw
        clear hcw
        have hrl : Hid ((rowL xss k).length = n) := HLEN.out k hlt
        go_wp2_with fail
        obtain ⟨wo, rfl⟩ : ∃ wo : World, wo = wr := ⟨_, rfl⟩
        go_loopw [25] (fun i' wi => ∃ j : Nat, j ≤ n ∧ i' = .int .i64 j ∧ OwnI wi w.heap.size (.slice (some ⟨w.heap.size, 0, none⟩) n n) (fmap (sumMid xss k j) n) ∧ Below w.heap.size w wi) (fun i _ => n - (intOf i).toNat)
        case atStart => exact ⟨0, Nat.zero_le _, rfl, by rw [mid_zero]; exact hown, hb⟩
        case round =>
          clear hown hb hc2
          obtain ⟨j, hj, rfl, hown, hb⟩ := hrel
          by_cases hjl : j < n
          · have j0 : (0 : Int) ≤ (j : Int) := by omega
            have j1 : (j : Int) < (n : Int) := by omega
            obtain ⟨b4, off4, rfl, hbl4, hc4⟩ := (hrw.below hb).cell j (by rw [hrl.out]; exact hjl)
            have hlv : ∀ m, m < xss.length → 0 ≤ nth (rowL xss m) j ∧ nth (rowL xss m) j ≤ 10 := fun m hm => by
              have h1 := lv_lt (HLV.out m hm) (k := j) (by rw [HLEN.out m hm]; exact hjl)
              rw [HLEN.out m hm] at h1
              omega
            have ⟨s0, s1⟩ := sumTo_bd (xss := xss) (i := j) (k := k) (fun m hm => hlv m (by omega))
            have ⟨v0, v1⟩ := hlv k hlt
            have ⟨ci, fi⟩ := hown.at' (fmap_len _ _).symm (i := j) (by rw [fmap_len]; exact hjl)
            rw [show nth (fmap (sumMid xss k j) n) j = sumTo xss k j from by rw [show nth (fmap (sumMid xss k j) n) j = _ from fmap_nth _ hjl, sumMid, if_neg (by omega)]] at ci
            have hput := hown.put (fmap_len _ _).symm j (sumTo xss (k+1) j)
            rw [mid_step xss k n j hjl] at hput
            have HP := Lib.hid hput
            have HE : Hid (sumTo xss (k+1) j = sumTo xss k j + nth (rowL xss k) j) := rfl
            obtain ⟨S, hS⟩ : ∃ S, S = sumTo xss k j := ⟨_, rfl⟩
            rw [← hS] at ci s0 s1 HE
            clear hput hS hlv
            go_wp2_with fail
            go_roundw
            case rel =>
              rw [← HE.out]
              exact ⟨j + 1, by omega, by go_num, HP.out.1, hb.setCell (p := ⟨w.heap.size, j, none⟩) (Nat.le_refl _) _⟩
            case measure => simp [intOf]; omega
          · obtain rfl : j = n := by omega
            rw [mid_full] at hown
            go_wp2_with fail
            go_roundw
            case rel => exact ⟨k + 1, by omega, by go_num, hown, hb⟩
            case measure => simp [intOf]; omega
      · obtain rfl : k = xss.length := by omega
        have hfl : (fmap (sumTo xss xss.length) n).length = n := fmap_len _ _
        have hrd := hown.rd
        have HF := Lib.hid (weOfN_any (some ⟨w.heap.size, 0, none⟩) (fmap (sumTo xss xss.length) n) n)
        rw [hfl] at HF
        clear hfl
        go_wp2_with fail
        refine (HF.out _ hrd (by omega)).mono ?_
        rintro e w5 ⟨a5, c5, rfl, ho5, hb5⟩
        go_wp2_with fail
        refine bodyPost_ret (v := .tuple #[.slice a5 n c5, .bool true]) (by simp [results, Try.results7, go_sem]) rfl ?_
        have hll : (mnL xss).length = n := by rw [HL.out, lvbL_len, fmap_len]
        refine ⟨a5, c5, by rw [hll, HB.out], ?_, hb.trans (hb5.mono hb.size)⟩
        rw [hll, HL.out]
        exact ho5.mono hb.size

def oc1 (s : Int) : Int := IntKind.u64.wrap (bits .and .u64 (s / 2) 6148914691236517205 + bits .and .u64 s 6148914691236517205)
def oc2 (s : Int) : Int := IntKind.u64.wrap (bits .and .u64 (oc1 s / 4) 3689348814741910323 + bits .and .u64 (oc1 s) 3689348814741910323)
def oc3 (s : Int) : Int := bits .and .u64 (IntKind.u64.wrap (oc2 s / 16 + oc2 s)) 1085102592571150095
def oc4 (s : Int) : Int := IntKind.u64.wrap (oc3 s + oc3 s / 256)
def oc5 (s : Int) : Int := IntKind.u64.wrap (oc4 s + oc4 s / 65536)
def oc6 (s : Int) : Int := IntKind.u64.wrap (oc5 s + oc5 s / 4294967296)
theorem oc_all : ∀ s : Fin 1024, bits .and .i64 (IntKind.i64.wrap (oc6 (s.val : Int))) 127 = ((elems s.val).length : Int) := by decide +kernel
theorem oc_eq {s : Nat} (h : s < 1024) : bits .and .i64 (wrap64 (oc6 (s : Int))) 127 = ((elems s).length : Int) := by
  rw [← IntWalk.i64_left]
  exact oc_all ⟨s, h⟩
theorem ones64_any (s : Nat) (w : World) (h1 : s < 1024) :
    Calls Try.prog 95 #[.int .u64 (s : Int)] w fun e w' => e = .returned (.int .i64 ((elems s).length : Int)) ∧ w = w' := by
  go_enter Try.func95, Try.ntmps95
  go_wp2_with fail
  go_ret
  refine ⟨?_, rfl⟩
  rw [← oc_eq h1]
  rfl
theorem ones_any (s : Nat) (w : World) (h1 : s < 1024) :
    Calls Try.prog 73 #[.int .u64 (s : Int)] w fun e w' => e = .returned (.int .i64 ((elems s).length : Int)) ∧ w = w' := by
  go_enter Try.func73, Try.ntmps73
  go_wp2_with fail
  refine (ones64_any s _ h1).mono ?_
  rintro e w' ⟨rfl, rfl⟩
  go_wp2_with fail
  go_ret
  exact ⟨rfl, rfl⟩
theorem countElements_any (s : Nat) (w : World) (h1 : s < 1024) :
    Calls Try.prog 54 #[.int .i64 (s : Int)] w fun e w' => e = .returned (.int .i64 ((elems s).length : Int)) ∧ w = w' := by
  have s1 : (s : Int) < 1024 := by omega
  go_enter Try.func54, Try.ntmps54
  go_wp2_with fail
  refine (ones_any s _ h1).mono ?_
  rintro e w' ⟨rfl, rfl⟩
  go_wp2_with fail
  go_ret
  exact ⟨rfl, rfl⟩

theorem fullSet_any (n : Int) (w : World) (h0 : 0 ≤ n) (h1 : n ≤ 10) :
    Calls Try.prog 53 #[.int .i64 n] w fun e w' => e = .returned (.int .i64 (2 ^ n.toNat - 1)) ∧ w = w' := by
  have hf := Lib.hid (full_eq h0 h1)
  go_enter Try.func53, Try.ntmps53
  go_wp2
  go_ret
  exact ⟨ret_int hf.out, rfl⟩

set_option maxRecDepth 100000 in
theorem iAreLevels_any (a : Option Addr) (xs : List Int) (cap : Nat) (w : World) (hx : Rd w a xs) :
    Calls Try.prog 33 #[.slice a xs.length cap] w fun e w' => e = .returned (.bool (lvB xs)) ∧ w = w' := by
  have hlen := hx.len
  by_cases hl : xs.length ≤ 10
  · go_enter Try.func33, Try.ntmps33
    go_wp2_with fail
    go_loop [3, 11] (fun s i => ∃ k : Nat, k ≤ xs.length ∧ i = .int .i64 k ∧ s = .int .i64 ((usedTo xs k : Nat) : Int) ∧ usedTo xs k < 1024 ∧ (∀ j, j < k → 0 ≤ nth xs j ∧ nth xs j < (xs.length : Int))) (fun _ i => xs.length - (intOf i).toNat)
    case atStart => exact ⟨0, Nat.zero_le _, rfl, rfl, by simp [usedTo], fun j hj => by omega⟩
    case round =>
      obtain ⟨k, hk, rfl, rfl, hu, hall⟩ := hrel
      have HA := Lib.hid hall
      clear hall
      obtain ⟨S, hS⟩ : ∃ S, S = usedTo xs k := ⟨_, rfl⟩
      rw [← hS] at hu ⊢
      have HS := Lib.hid hS
      clear hS
      by_cases hlt : k < xs.length
      · obtain ⟨b, off, rfl, hbl, hc⟩ := hx.cell k hlt
        by_cases h1 : nth xs k < 0
        · have HO : Hid (lvB xs = false) := by
            rw [Hid, ← Bool.not_eq_true]
            intro h
            have := lv_lt h hlt
            omega
          go_wp2_with fail
          go_ret
          exact ⟨ret_bool HO.out.symm, rfl⟩
        · by_cases h2 : (xs.length : Int) ≤ nth xs k
          · have HO : Hid (lvB xs = false) := by
              rw [Hid, ← Bool.not_eq_true]
              intro h
              have := lv_lt h hlt
              omega
            go_wp2_with fail
            go_ret
            exact ⟨ret_bool HO.out.symm, rfl⟩
          · obtain ⟨L, hL⟩ := Int.eq_ofNat_of_zero_le (by omega : 0 ≤ nth xs k)
            rw [hL] at hc h1 h2
            have HL := Lib.hid hL
            have hor := or_bit (b := S) (k := L) (by omega) (by omega)
            have HO := Lib.hid hor
            have hlt2 : S ||| 2 ^ L < 1024 := or_lt (n := 10) (by omega) (two_lt (by omega))
            have HN : Hid (usedTo xs (k+1) = S ||| 2 ^ L) := by rw [Hid, usedTo, ← HS.out, hL]; rfl
            clear hL hor
            go_wp2_with fail
            go_round
            case rel =>
              refine ⟨k + 1, by omega, by go_num, by rw [HO.out, HN.out], by rw [HN.out]; exact hlt2, fun j hj => ?_⟩
              by_cases e : j = k
              · rw [e, HL.out]; omega
              · exact HA.out j (by omega)
            case measure => simp [intOf]; omega
      · obtain rfl : k = xs.length := by omega
        have HF : Hid (lvB xs = fullB S) := by rw [Hid, lv_full hl HA.out, ← HS.out, full_down hu]
        have hel := elems_len S
        go_wp2_with fail
        refine (countElements_any S _ hu).mono ?_
        rintro e w' ⟨rfl, rfl⟩
        go_wp2_with fail
        refine (fullSet_any _ _ (by omega) (by omega)).mono ?_
        rintro e w' ⟨rfl, rfl⟩
        go_wp2_with fail
        go_ret
        exact ⟨ret_bool HF.out.symm, rfl⟩
  · have HO : Hid (lvB xs = false) := by
      rw [Hid, ← Bool.not_eq_true]
      intro h
      exact hl (lvB_iff.1 h).1
    go_enter Try.func33, Try.ntmps33
    go_wp2_with fail
    go_ret
    exact ⟨ret_bool HO.out.symm, rfl⟩

set_option maxRecDepth 100000 in
theorem iVoters_any (a : Option Addr) (xss : List (List Int)) (cap : Nat) (w : World) (hx : RdS w a xss) :
    Calls Try.prog 29 #[.slice a xss.length cap] w fun e w' => e = .returned (.bool (vtB xss)) ∧ w = w' := by
  have hlen := hx.len
  by_cases h0 : xss.length < 1
  · have H : Hid (vtB xss = false) := by
      rw [Hid, ← Bool.not_eq_true, vtB_iff]; omega
    go_enter Try.func29, Try.ntmps29
    go_wp2_with fail
    go_ret
    exact ⟨ret_bool H.out.symm, rfl⟩
  · by_cases h1 : 15 < xss.length
    · have H : Hid (vtB xss = false) := by
        rw [Hid, ← Bool.not_eq_true, vtB_iff]; omega
      go_enter Try.func29, Try.ntmps29
      go_wp2_with fail
      go_ret
      exact ⟨ret_bool H.out.symm, rfl⟩
    · go_enter Try.func29, Try.ntmps29
      go_wp2_with fail
      go_loop [15] (fun i => ∃ k : Nat, k ≤ xss.length ∧ i = .int .i64 k ∧ ∀ j, j < k → vtOk xss j = true) (fun i => xss.length - (intOf i).toNat)
      case atStart => exact ⟨0, Nat.zero_le _, rfl, fun j hj => by omega⟩
      case round =>
        obtain ⟨k, hk, rfl, hall⟩ := hrel
        have HA := Lib.hid hall
        clear hall
        by_cases hlt : k < xss.length
        · obtain ⟨b, off, a1, cap1, rfl, hbl, hc, hr⟩ := hx.row k hlt
          obtain ⟨b2, off2, a2, cap2, e2, hbl2, hc2, hr2⟩ := hx.row 0 (by omega)
          simp only [Option.some.injEq, Addr.mk.injEq, and_true] at e2
          obtain ⟨rfl, rfl⟩ := e2
          rw [Nat.add_zero] at hc2
          have k1 : (k : Int) < (xss.length : Int) := by omega
          have z1 : (0 : Int) < (xss.length : Int) := by omega
          go_wp2_with fail
          refine (iAreLevels_any _ _ _ _ hr).mono ?_
          rintro e w' ⟨rfl, rfl⟩
          cases hv : lvB (rowL xss k)
          · have H := Lib.hid (vt_no hlt (by simp [vtOk, hv]))
            clear hv
            go_wp2_with fail
            go_ret
            exact ⟨ret_bool H.out.symm, rfl⟩
          · by_cases hq : (rowL xss k).length = (rowL xss 0).length
            · have H : Hid (vtOk xss k = true) := vtOk_iff.2 ⟨hv, hq⟩
              have hqq : (((rowL xss k).length : Int) != ((rowL xss 0).length : Int)) = false := by simp [hq]
              clear hv hq
              go_wp2_with fail
              go_round
              case rel =>
                refine ⟨k + 1, by omega, by go_num, fun j hj => ?_⟩
                by_cases e : j = k
                · rw [e]; exact H.out
                · exact HA.out j (by omega)
              case measure => simp [intOf]; omega
            · have H := Lib.hid (vt_no hlt (by simp [vtOk, hq]))
              have hqq : (((rowL xss k).length : Int) != ((rowL xss 0).length : Int)) = true := by simp; omega
              clear hv hq
              go_wp2_with fail
              go_ret
              exact ⟨ret_bool H.out.symm, rfl⟩
        · obtain rfl : k = xss.length := by omega
          have H : Hid (vtB xss = true) := vtB_iff.2 ⟨by omega, by omega, HA.out⟩
          go_wp2_with fail
          go_ret
          exact ⟨ret_bool H.out.symm, rfl⟩

/-- a list in order, as the library sorts it -/
def srt (xs : List Int) : List Int := xs.mergeSort fun x y => decide (x ≤ y)
theorem srt_len (xs : List Int) : (srt xs).length = xs.length := List.length_mergeSort xs
theorem srt_mem (xs : List Int) (x : Int) : x ∈ srt xs ↔ x ∈ xs := List.mem_mergeSort
theorem srt_le (xs : List Int) : (srt xs).Pairwise (· ≤ ·) := by
  have h := List.pairwise_mergeSort (le := fun (x y : Int) => decide (x ≤ y)) (fun a b c h1 h2 => by simp only [decide_eq_true_eq] at *; omega) (fun a b => by simp only [Bool.or_eq_true, decide_eq_true_eq]; omega) xs
  exact h.imp (fun h => by simpa using h)



def Sh_laysSlF6_f46_ren : Go.Shelf.Ren := ⟨fun | 6 => 46 | 15 => 72 | 14 => 71 | 28 => 92 | 29 => 93 | 20 => 84 | 21 => 85 | 22 => 86 | 23 => 87 | 24 => 88 | 25 => 89 | 26 => 90 | 27 => 91 | 46 => 111 | 47 => 112 | 48 => 113 | 49 => 114 | 50 => 115 | 57 => 123 | n => n, fun | 22 => 24 | 24 => 3 | 25 => 49 | 3 => 3 | 39 => 89 | 0 => 0 | 53 => 104 | 55 => 106 | 4 => 4 | 46 => 98 | 45 => 97 | 50 => 70 | 5 => 5 | 9 => 9 | 66 => 115 | 70 => 119 | 76 => 126 | 77 => 127 | n => n, fun | n => n⟩
theorem Sh_laysSlF6_f46 : Go.Proofs.SlLaysF.n6 Try.prog Sh_laysSlF6_f46_ren := {
  mixed := by kernel_rfl
  f6 := ⟨Try.f46.name, by decide, Try.func46.trans (congrArg some (by kernel_rfl))⟩
  f14 := ⟨Try.f71.name, by decide, Try.func71.trans (congrArg some (by kernel_rfl))⟩
  f15 := Try.func72.trans (congrArg some (by kernel_rfl))
  f20 := ⟨Try.f84.name, by decide, Try.func84.trans (congrArg some (by kernel_rfl))⟩
  f21 := ⟨Try.f85.name, by decide, Try.func85.trans (congrArg some (by kernel_rfl))⟩
  f22 := ⟨Try.f86.name, by decide, Try.func86.trans (congrArg some (by kernel_rfl))⟩
  f23 := ⟨Try.f87.name, by decide, Try.func87.trans (congrArg some (by kernel_rfl))⟩
  f24 := ⟨Try.f88.name, by decide, Try.func88.trans (congrArg some (by kernel_rfl))⟩
  f25 := ⟨Try.f89.name, by decide, Try.func89.trans (congrArg some (by kernel_rfl))⟩
  f26 := ⟨Try.f90.name, by decide, Try.func90.trans (congrArg some (by kernel_rfl))⟩
  f27 := ⟨Try.f91.name, by decide, Try.func91.trans (congrArg some (by kernel_rfl))⟩
  f28 := Try.func92.trans (congrArg some (by kernel_rfl))
  f29 := Try.func93.trans (congrArg some (by kernel_rfl))
  f46 := ⟨Try.f111.name, by decide, Try.func111.trans (congrArg some (by kernel_rfl))⟩
  f47 := Try.func112.trans (congrArg some (by kernel_rfl))
  f48 := Try.func113.trans (congrArg some (by kernel_rfl))
  f49 := ⟨Try.f114.name, by decide, Try.func114.trans (congrArg some (by kernel_rfl))⟩
  f50 := ⟨Try.f115.name, by decide, Try.func115.trans (congrArg some (by kernel_rfl))⟩
  f57 := ⟨Try.f123.name, by decide, Try.func123.trans (congrArg some (by kernel_rfl))⟩
  t0 := Try.underlying0
  a0 := Try.isAgg0
  z0 := Try.sizeOf0
  v0 := Try.zeroValue0
  t3 := Try.underlying3
  a3 := Try.isAgg3
  z3 := Try.sizeOf3
  v3 := Try.zeroValue3
  t4 := Try.underlying4
  a4 := Try.isAgg4
  z4 := Try.sizeOf4
  v4 := Try.zeroValue4
  t5 := Try.underlying5
  a5 := Try.isAgg5
  z5 := Try.sizeOf5
  v5 := Try.zeroValue5
  t9 := Try.underlying9
  a9 := Try.isAgg9
  z9 := Try.sizeOf9
  v9 := Try.zeroValue9
  t22 := Try.underlying24
  a22 := Try.isAgg24
  z22 := Try.sizeOf24
  v22 := Try.zeroValue24
  a24 := Try.isAgg3
  z24 := Try.sizeOf3
  t25 := Try.underlying49
  a25 := Try.isAgg49
  z25 := Try.sizeOf49
  v25 := Try.zeroValue49
  t39 := Try.underlying89
  a39 := Try.isAgg89
  z39 := Try.sizeOf89
  v39 := Try.zeroValue89
  t45 := Try.underlying97
  a45 := Try.isAgg97
  z45 := Try.sizeOf97
  v45 := Try.zeroValue97
  t46 := Try.underlying98
  a46 := Try.isAgg98
  z46 := Try.sizeOf98
  v46 := Try.zeroValue98
  t50 := Try.underlying70
  a50 := Try.isAgg70
  z50 := Try.sizeOf70
  v50 := Try.zeroValue70
  t53 := Try.underlying104
  a53 := Try.isAgg104
  z53 := Try.sizeOf104
  v53 := Try.zeroValue104
  t55 := Try.underlying106
  a55 := Try.isAgg106
  z55 := Try.sizeOf106
  v55 := Try.zeroValue106
  t66 := Try.underlying115
  a66 := Try.isAgg115
  z66 := Try.sizeOf115
  v66 := Try.zeroValue115
  t70 := Try.underlying119
  a70 := Try.isAgg119
  z70 := Try.sizeOf119
  v70 := Try.zeroValue119
  t76 := Try.underlying126
  a76 := Try.isAgg126
  z76 := Try.sizeOf126
  v76 := Try.zeroValue126
  t77 := Try.underlying127
  a77 := Try.isAgg127
  z77 := Try.sizeOf127
  v77 := Try.zeroValue127 }

open Go.RowKit Go.Lib Go.Sort in
theorem Sh_slices_SortFunc_total {α : Type} [Inhabited α] (enc : α → Value) (h1 : OneCell enc) (cf : α → α → Int) (hO : SWO (ltOf cf)) (g : Nat) (cb : Array Value) (blk off cap : Nat) (d : Array α) (w : World) (eg : ∀ args w, (callFunc g args).run Try.prog w = .ok (.enter g args) w) (hcmp : CmpLays1 Try.prog g cb enc cf blk off d.size w) (hH : Holds enc w blk off d) (hblk : blk < w.heap.size) (hsz : d.size < 4611686018427387904) (hT : ∀ x y, (ltOf cf) x y = false → (ltOf cf) y x = false → x = y) :
    Calls Try.prog 46 #[.slice (some ⟨blk, off, none⟩) d.size cap, .func (.func g) #[] cb] w fun e w' =>
      e = .returned (.tuple #[]) ∧ ∃ n os, w' = sortWorld enc w blk off n (d.toList.mergeSort fun x y => !(ltOf cf) y x).toArray os := Any.slices_SortFunc_total Sh_laysSlF6_f46 enc h1 cf hO g cb blk off cap d w eg hcmp hH hblk hsz hT

def Sh_laysSlF06_f46_ren : Go.Shelf.Ren := ⟨fun | 6 => 46 | 15 => 72 | 14 => 71 | 28 => 92 | 29 => 93 | 20 => 84 | 21 => 85 | 22 => 86 | 23 => 87 | 24 => 88 | 25 => 89 | 26 => 90 | 27 => 91 | 46 => 111 | 47 => 112 | 48 => 113 | 49 => 114 | 50 => 115 | 57 => 123 | n => n, fun | 22 => 24 | 24 => 3 | 25 => 49 | 3 => 3 | 39 => 89 | 0 => 0 | 53 => 104 | 55 => 106 | 4 => 4 | 46 => 98 | 45 => 97 | 50 => 70 | 5 => 5 | 9 => 9 | 66 => 115 | 70 => 119 | 76 => 126 | 77 => 127 | n => n, fun | n => n⟩
theorem Sh_laysSlF06_f46 : Go.Proofs.SlLaysF0.n6 Try.prog Sh_laysSlF06_f46_ren := {
  mixed := by kernel_rfl
  f6 := ⟨Try.f46.name, by decide, Try.func46.trans (congrArg some (by kernel_rfl))⟩
  f14 := ⟨Try.f71.name, by decide, Try.func71.trans (congrArg some (by kernel_rfl))⟩
  f15 := Try.func72.trans (congrArg some (by kernel_rfl))
  f20 := ⟨Try.f84.name, by decide, Try.func84.trans (congrArg some (by kernel_rfl))⟩
  f21 := ⟨Try.f85.name, by decide, Try.func85.trans (congrArg some (by kernel_rfl))⟩
  f22 := ⟨Try.f86.name, by decide, Try.func86.trans (congrArg some (by kernel_rfl))⟩
  f23 := ⟨Try.f87.name, by decide, Try.func87.trans (congrArg some (by kernel_rfl))⟩
  f24 := ⟨Try.f88.name, by decide, Try.func88.trans (congrArg some (by kernel_rfl))⟩
  f25 := ⟨Try.f89.name, by decide, Try.func89.trans (congrArg some (by kernel_rfl))⟩
  f26 := ⟨Try.f90.name, by decide, Try.func90.trans (congrArg some (by kernel_rfl))⟩
  f27 := ⟨Try.f91.name, by decide, Try.func91.trans (congrArg some (by kernel_rfl))⟩
  f28 := Try.func92.trans (congrArg some (by kernel_rfl))
  f29 := Try.func93.trans (congrArg some (by kernel_rfl))
  f46 := ⟨Try.f111.name, by decide, Try.func111.trans (congrArg some (by kernel_rfl))⟩
  f47 := Try.func112.trans (congrArg some (by kernel_rfl))
  f48 := Try.func113.trans (congrArg some (by kernel_rfl))
  f49 := ⟨Try.f114.name, by decide, Try.func114.trans (congrArg some (by kernel_rfl))⟩
  f50 := ⟨Try.f115.name, by decide, Try.func115.trans (congrArg some (by kernel_rfl))⟩
  f57 := ⟨Try.f123.name, by decide, Try.func123.trans (congrArg some (by kernel_rfl))⟩
  t0 := Try.underlying0
  a0 := Try.isAgg0
  z0 := Try.sizeOf0
  v0 := Try.zeroValue0
  t3 := Try.underlying3
  a3 := Try.isAgg3
  z3 := Try.sizeOf3
  v3 := Try.zeroValue3
  t4 := Try.underlying4
  a4 := Try.isAgg4
  z4 := Try.sizeOf4
  v4 := Try.zeroValue4
  t5 := Try.underlying5
  a5 := Try.isAgg5
  z5 := Try.sizeOf5
  v5 := Try.zeroValue5
  t9 := Try.underlying9
  a9 := Try.isAgg9
  z9 := Try.sizeOf9
  v9 := Try.zeroValue9
  t22 := Try.underlying24
  a22 := Try.isAgg24
  z22 := Try.sizeOf24
  v22 := Try.zeroValue24
  t25 := Try.underlying49
  a25 := Try.isAgg49
  z25 := Try.sizeOf49
  v25 := Try.zeroValue49
  t39 := Try.underlying89
  a39 := Try.isAgg89
  z39 := Try.sizeOf89
  v39 := Try.zeroValue89
  t45 := Try.underlying97
  a45 := Try.isAgg97
  z45 := Try.sizeOf97
  v45 := Try.zeroValue97
  t46 := Try.underlying98
  a46 := Try.isAgg98
  z46 := Try.sizeOf98
  v46 := Try.zeroValue98
  t50 := Try.underlying70
  a50 := Try.isAgg70
  z50 := Try.sizeOf70
  v50 := Try.zeroValue70
  t53 := Try.underlying104
  a53 := Try.isAgg104
  z53 := Try.sizeOf104
  v53 := Try.zeroValue104
  t55 := Try.underlying106
  a55 := Try.isAgg106
  z55 := Try.sizeOf106
  v55 := Try.zeroValue106
  t66 := Try.underlying115
  a66 := Try.isAgg115
  z66 := Try.sizeOf115
  v66 := Try.zeroValue115
  t70 := Try.underlying119
  a70 := Try.isAgg119
  z70 := Try.sizeOf119
  v70 := Try.zeroValue119
  t76 := Try.underlying126
  a76 := Try.isAgg126
  z76 := Try.sizeOf126
  v76 := Try.zeroValue126
  t77 := Try.underlying127
  a77 := Try.isAgg127
  z77 := Try.sizeOf127
  v77 := Try.zeroValue127 }

open Go.RowKit Go.Lib Go.Sort in
theorem Sh_slices_SortFunc_none {α : Type} [Inhabited α] (p : Option Addr) (cap : Nat) (fv : Value) (w : World) :
    Calls Try.prog 46 #[.slice p 0 cap, fv] w fun e w' => e = .returned (.tuple #[]) ∧ w' = w := AnyF.slices_SortFunc_none Sh_laysSlF06_f46 p cap fv w

def Sh_lays122_ren : Go.Shelf.Ren := ⟨fun | 122 => 31 | 215 => 50 | n => n, fun | 3 => 3 | 4 => 4 | n => n, fun | n => n⟩
theorem Sh_lays122 : Go.Proofs.Lays.n122 Try.prog Sh_lays122_ren := {
  mixed := by kernel_rfl
  f122 := Try.func31.trans (congrArg some (by kernel_rfl))
  f215 := Try.func50.trans (congrArg some (by kernel_rfl))
  t3 := Try.underlying3
  a3 := Try.isAgg3
  z3 := Try.sizeOf3
  v3 := Try.zeroValue3
  t4 := Try.underlying4
  a4 := Try.isAgg4
  z4 := Try.sizeOf4
  v4 := Try.zeroValue4 }

open Go.RowKit in
theorem Sh_cmp_Compare_int (x y : Int) (w : World) :
    Calls Try.prog 31 #[.int .i64 x, .int .i64 y] w fun e w' => e = .returned (.int .i64 (Lib.compareInt x y)) ∧ w' = w := Any.cmp_Compare_int Sh_lays122 x y w

theorem ltCmp (x y : Int) : Go.Proofs.ltOf Go.Lib.compareInt x y = decide (x < y) := by
  unfold Go.Proofs.ltOf Go.Lib.compareInt
  by_cases h1 : x < y
  · simp [h1]
  · by_cases h2 : y < x <;> simp [h1, h2]
theorem swoCmp : Go.Sort.SWO (Go.Proofs.ltOf Go.Lib.compareInt) where
  irrefl x := by rw [ltCmp]; simp
  trans x y z h1 h2 := by rw [ltCmp] at *; simp at *; omega
  ntrans x y z h1 h2 := by rw [ltCmp] at *; simp at *; omega
theorem cmpLays (blk off size : Nat) (w : World) : Go.Proofs.CmpLays1 Try.prog 31 #[] (Value.int .i64) Go.Lib.compareInt blk off size w :=
  Go.Proofs.CmpReads.lays (fun _ _ _ _ x y => (Sh_cmp_Compare_int x y _).mono fun _ _ ⟨he, hw⟩ => ⟨he, 0, by rw [hw]; rfl⟩)
theorem srt_cmp (xs : List Int) : (xs.mergeSort fun x y => !(Go.Proofs.ltOf Go.Lib.compareInt) y x) = srt xs := by
  unfold srt
  congr 1
  funext x y
  rw [ltCmp]
  by_cases h : x ≤ y
  · simp [h]
  · simp [h]; omega
theorem sortFunc_own (a : Option Addr) (cap : Nat) (xs : List Int) (B : Nat) (w : World) (hl : xs.length ≤ 1048576) (ho : OwnI w B (.slice a xs.length cap) xs) :
    Calls Try.prog 46 #[.slice a xs.length cap, .func (.func 31) #[] #[]] w fun e w' => e = .returned (.tuple #[]) ∧ OwnI w' B (.slice a (srt xs).length cap) (srt xs) ∧ w.grownBy w' (Value.slice a xs.length cap).ownBlock := by
  rcases ho.2 with ⟨e0, h0⟩ | ⟨g, cap', cur, e0, hbase, hb, h1, h2, h3, h4⟩
  · have hx : xs = [] := List.length_eq_zero_iff.1 h0
    subst hx
    refine (Sh_slices_SortFunc_none (α := Int) a cap _ w).mono ?_
    rintro e w' ⟨rfl, rfl⟩
    exact ⟨rfl, by rw [show srt [] = [] from by simp [srt]]; exact ho, World.grownBy.refl _ _⟩
  · simp only [Value.slice.injEq] at e0
    obtain ⟨rfl, -, rfl⟩ := e0
    have hh := Go.holds_of_blockI (ss := xs) hb (by simpa using h4)
    have eg : ∀ args w, (callFunc 31 args).run Try.prog w = .ok (.enter 31 args) w := enters_of Try.func31 (by kernel_rfl) rfl
    have hcon := Sh_slices_SortFunc_total (Value.int .i64) (fun _ => rfl) Go.Lib.compareInt swoCmp 31 #[] g 0 cap xs.toArray w eg (cmpLays g 0 xs.toArray.size w) hh ((Array.getElem?_eq_some_iff.1 hb).1) (by simp; omega) (fun x y h1 h2 => by rw [ltCmp] at h1 h2; simp at h1 h2; omega)
    rw [show xs.toArray.size = xs.length by simp, show xs.toArray.toList = xs by simp, srt_cmp] at hcon
    refine hcon.mono ?_
    rintro e w' ⟨rfl, nn, os, rfl⟩
    refine ⟨rfl, ?_, Go.grownBy_sortedI _⟩
    have := Go.ownsRow_sortedI (n := nn) (os := os) (ss := xs) (ts := srt xs) (srt_len xs) hbase hb h1 h2 h3
    unfold OwnI
    rw [srt_len]
    exact this

theorem eqC_is (x y : Int) (bx : Nat) (w : World) (hb : w.cell? ⟨bx, 0, none⟩ = some (.func (.func 31) #[] #[])) :
    Calls Try.prog 48 #[.int .i64 x, .int .i64 y, .pointer (some ⟨bx, 0, none⟩)] w fun e w' => e = .returned (.bool (decide (x = y))) ∧ w = w' := by
  have hz : (Go.Lib.compareInt x y == 0) = decide (x = y) := by
    unfold Go.Lib.compareInt
    by_cases h1 : x < y
    · have : x ≠ y := by omega
      simp [h1, this]
    · by_cases h2 : x > y
      · have : x ≠ y := by omega
        simp [h1, h2, this]
      · have : x = y := by omega
        simp [this]
  have HC := Lib.hid (Sh_cmp_Compare_int x y w)
  obtain ⟨r, hr⟩ : ∃ r, r = Go.Lib.compareInt x y := ⟨_, rfl⟩
  rw [← hr] at hz HC
  have HZ := Lib.hid hz
  clear hr hz
  go_enter Try.func48, Try.ntmps48
  go_wp2_with (go_at_call 31; refine HC.out.mono ?_; rintro e w' ⟨rfl, rfl⟩)
  go_ret
  exact ⟨ret_bool HZ.out, rfl⟩

theorem ownsRow_cut2 {w : World} {B g n cap m : Nat} {t : TypeId} {xs : List Value} (h : w.ownsRow B t 1 (.slice (some ⟨g, 0, none⟩) n cap) n xs) (hm : m ≤ n) : w.ownsRow B t 1 (.slice (some ⟨g, 0, none⟩) m cap) m (xs.take m) := by
  have hl := h.1
  rcases h.2 with ⟨e0, _⟩ | ⟨g', cap', cur, e0, hbase, hb, h1, h2, h3, h4⟩
  · cases e0
  · simp only [Value.slice.injEq, Option.some.injEq, Addr.mk.injEq, and_true] at e0
    obtain ⟨rfl, -, rfl⟩ := e0
    refine ⟨by rw [List.length_take]; omega, .inr ⟨g, cap, cur, rfl, hbase, hb, by omega, h2, h3, ?_⟩⟩
    rw [← h4, List.take_take]
    congr 1
    omega
theorem OwnI.cutTo {w : World} {B g n cap m : Nat} {xs : List Int} (h : OwnI w B (.slice (some ⟨g, 0, none⟩) n cap) xs) (hn : n = xs.length) (hm : m ≤ n) : OwnI w B (.slice (some ⟨g, 0, none⟩) m cap) (xs.take m) := by
  subst hn
  have h1 := ownsRow_cut2 h hm
  unfold OwnI
  rw [List.length_take, show min m xs.length = m by omega, ← List.map_take] at *
  exact h1
theorem OwnI.past {B g m cap : Nat} {ys : List Int} (hm : m = ys.length) : ∀ (k : Nat) (w : World) (j : Nat), OwnI w B (.slice (some ⟨g, 0, none⟩) m cap) ys → m ≤ j → OwnI (w.setCells g j (List.replicate k (.int .i64 0))) B (.slice (some ⟨g, 0, none⟩) m cap) ys ∧ w.grownBy (w.setCells g j (List.replicate k (.int .i64 0))) (some g)
  | 0, w, j, h, _ => ⟨h, World.grownBy.refl _ _⟩
  | k+1, w, j, h, hj => by
    have h1 := h.put hm j 0
    rw [List.set_eq_of_length_le (by omega)] at h1
    have h2 := OwnI.past hm k (w.setCell ⟨g, j, none⟩ (.int .i64 0)) (j+1) h1.1 (by omega)
    rw [List.replicate_succ]
    exact ⟨h2.1, grown_trans h1.2 h2.2⟩
theorem compact_all {xs : List Int} (h : ∀ j, j < xs.length → Go.Lib.keeps xs.toArray j = true) : Go.Lib.compact xs = xs := by
  unfold Go.Lib.compact
  have e : xs.length = xs.toArray.size := by simp
  rw [Go.Lib.compactUpTo_all xs.toArray _ h, e, Go.Lib.range_map_get]
theorem arr_at (l : List Int) {j : Nat} (h : j < l.length) : l.toArray[j]! = nth l j := by
  rw [getElem!_pos l.toArray j (by simpa using h), nth_get l j h]; simp
set_option maxRecDepth 100000 in
set_option maxHeartbeats 1000000 in
theorem compactFn_own (a : Option Addr) (cap : Nat) (xs : List Int) (B bx : Nat) (w : World) (hl : xs.length ≤ 1048576) (ho : OwnI w B (.slice a xs.length cap) xs) (hbx : w.cell? ⟨bx, 0, none⟩ = some (.func (.func 31) #[] #[])) (hne : bx < B) :
    Calls Try.prog 47 #[.slice a xs.length cap, .func (.func 48) #[] #[.pointer (some ⟨bx, 0, none⟩)]] w fun e w' => e = .returned (.slice a (Go.Lib.compact xs).length cap) ∧ OwnI w' B (.slice a (Go.Lib.compact xs).length cap) (Go.Lib.compact xs) ∧ w.grownBy w' (Value.slice a xs.length cap).ownBlock := by
  by_cases h2 : xs.length < 2
  · have HC : Hid (Go.Lib.compact xs = xs) := compact_all (fun j hj => Go.Lib.keeps_lt_one _ j (by omega))
    go_enter Try.func47, Try.ntmps47
    go_wp2_with fail
    go_ret
    exact ⟨by rw [HC.out]; rfl, by rw [HC.out]; exact ho, World.grownBy.refl _ _⟩
  · obtain ⟨g, rfl, hg1, hg2⟩ := ho.head (by omega)
    have hbs := World.block_lt_of_cell? _ _ hbx
    have hcap := ho.capLe
    obtain ⟨n, hn⟩ : ∃ n, n = xs.length := ⟨_, rfl⟩
    rw [← hn] at ho hl h2 hcap ⊢
    have HN := Lib.hid hn
    have HO := Lib.hid ho
    clear hn ho
    go_enter Try.func47, Try.ntmps47
    go_wp2_with fail
    go_loopw [5] (fun i wr => ∃ k : Nat, 1 ≤ k ∧ k ≤ n ∧ i = .int .i64 k ∧ Below w.heap.size w wr ∧ ∀ j, j < k → Go.Lib.keeps xs.toArray j = true) (fun i _ => n - (intOf i).toNat)
    case atStart => exact ⟨1, Nat.le_refl _, by omega, rfl, Below.refl _ _, Go.Lib.keeps_lt_one _⟩
    case round =>
      obtain ⟨k, hk1, hk, rfl, hb, hall⟩ := hrel
      have hbxr := (hb.cell (p := ⟨bx, 0, none⟩) hbs).trans hbx
      have hor := HO.out.below hb (Nat.le_refl _)
      have HA := Lib.hid hall
      clear hall
      by_cases hlt : k < n
      · have ⟨c1, f1⟩ := hor.at' HN.out (i := k) (by rw [← HN.out]; exact hlt)
        have ⟨c0, f0⟩ := hor.at' HN.out (i := k - 1) (by rw [← HN.out]; omega)
        have k1 : (k : Int) < (n : Int) := by omega
        have hwk : IntKind.i64.wrap ((k : Int) - 1) = ((k - 1 : Nat) : Int) := by
          rw [i64_wrap, IntWalk.wrap64_in _ ⟨by omega, by omega⟩]; omega
        have km : ((k - 1 : Nat) : Int) < (n : Int) := by omega
        have hx1 := arr_at xs (j := k) (by rw [← HN.out]; exact hlt)
        have hx0 := arr_at xs (j := k - 1) (by rw [← HN.out]; omega)
        obtain ⟨x, hx⟩ : ∃ x, x = nth xs k := ⟨_, rfl⟩
        obtain ⟨y, hy⟩ : ∃ y, y = nth xs (k - 1) := ⟨_, rfl⟩
        rw [← hx] at c1 hx1
        rw [← hy] at c0 hx0
        have HX1 := Lib.hid hx1
        have HX0 := Lib.hid hx0
        clear hx hy hx1 hx0 f0 f1
        by_cases hdup : x = y
        · subst hdup
          go_wp2_with fail
          go_region_held3 (fun w' => w'.cell? ⟨g, k, none⟩ = some (.int .i64 x) ∧ w'.cell? ⟨g, k - 1, none⟩ = some (.int .i64 x) ∧ w'.cell? ⟨bx, 0, none⟩ = some (.func (.func 31) #[] #[]))
            (first | go_keep)
            (first | (go_at_call 48; refine (eqC_is _ _ bx _ (by simpa using hbxr)).mono ?_; rintro e w' ⟨rfl, rfl⟩))
          have hor1 := hor.below (Below.refl wr.heap.size wr).drew (Nat.le_refl _)
          have hgr : w.grownBy wr.drew (some g) := below_grown hb.drew (Nat.le_refl _) _
          have HI0 := Lib.hid (Go.Lib.CompInv.start HA.out (Go.Lib.keeps_neg (by omega) (by rw [HX1.out, HX0.out])))
          clear c0 c1 hor hb HX1 HX0 hwk km
          go_wp2_with fail
          go_loopw [5, 7] (fun i5 i7 wv => ∃ (kk k2 : Nat) (ys : List Int), i5 = .int .i64 kk ∧ i7 = .int .i64 k2 ∧ 1 ≤ k2 ∧ k + k2 ≤ n ∧ Hid (n = ys.length) ∧ OwnI wv B (.slice (some ⟨g, 0, none⟩) n cap) ys ∧ w.grownBy wv (some g) ∧ wv.cell? ⟨bx, 0, none⟩ = some (.func (.func 31) #[] #[]) ∧ kk < k + k2 ∧ Hid (Go.Lib.CompInv xs.toArray (k + k2) kk ys.toArray)) (fun _ i _ => n - k - (intOf i).toNat)
          case atStart => exact ⟨k, 1, xs, rfl, rfl, Nat.le_refl _, by omega, HN.out, hor1, hgr, by simpa using hbxr, by omega, HI0.out⟩
          case round =>
            clear hor1 hgr hbxr
            obtain ⟨kk, k2, ys, rfl, rfl, h1, hle, HY, hown, hgr, hbxr, hkk, HI⟩ := hrel
            by_cases hlt2 : k + k2 < n
            · have ⟨cm, fm⟩ := hown.at' HY.out (i := k + k2) (by rw [← HY.out]; exact hlt2)
              have ⟨cp, fp⟩ := hown.at' HY.out (i := k + k2 - 1) (by rw [← HY.out]; omega)
              have ⟨ck, fk⟩ := hown.at' HY.out (i := kk) (by rw [← HY.out]; omega)
              have hm := HI.out.high (k + k2) (by omega)
              have hp := HI.out.high (k + k2 - 1) (by omega)
              rw [arr_at ys (by rw [← HY.out]; omega)] at hm hp
              rw [hm] at cm
              rw [hp, show k + k2 - 1 = k + (k2 - 1) by omega] at cp
              have hwk : IntKind.i64.wrap ((k2 : Int) - 1) = ((k2 - 1 : Nat) : Int) := by
                rw [i64_wrap, IntWalk.wrap64_in _ ⟨by omega, by omega⟩]; omega
              have e1 : k + (k2 - 1) = k + k2 - 1 := by omega
              obtain ⟨u, hu⟩ : ∃ u, u = xs.toArray[k + k2]! := ⟨_, rfl⟩
              obtain ⟨v, hv⟩ : ∃ v, v = xs.toArray[k + k2 - 1]! := ⟨_, rfl⟩
              obtain ⟨old, hold⟩ : ∃ old, old = nth ys kk := ⟨_, rfl⟩
              rw [← hu] at cm
              rw [e1, ← hv] at cp
              rw [← hold] at ck
              have HU := Lib.hid hu
              have HV := Lib.hid hv
              have q1 : (k2 : Int) < (n : Int) - (k : Int) := by omega
              have q2 : ((k2 - 1 : Nat) : Int) < (n : Int) - (k : Int) := by omega
              have q3 : (kk : Int) < (n : Int) := by omega
              have q4 : (k2 : Int) < ((n - k : Nat) : Int) := by omega
              have q5 : ((k2 - 1 : Nat) : Int) < ((n - k : Nat) : Int) := by omega
              clear hu hv hold hm hp fm fp
              rw [← e1] at cp
              clear e1
              by_cases huv : u = v
              · subst huv
                go_wp2_with fail
                go_region_held3 (fun w' => w'.cell? ⟨g, k + k2, none⟩ = some (.int .i64 u) ∧ w'.cell? ⟨g, k + (k2 - 1), none⟩ = some (.int .i64 u) ∧ w'.cell? ⟨bx, 0, none⟩ = some (.func (.func 31) #[] #[]))
                  (first | go_keep)
                  (first | (go_at_call 48; refine (eqC_is _ _ bx _ (by simpa using hbxr)).mono ?_; rintro e w' ⟨rfl, rfl⟩))
                go_wp2_with fail
                go_roundw
                case rel => exact ⟨kk, k2 + 1, ys, rfl, by go_num, by omega, by omega, HY, hown.below (Below.refl wr.heap.size wr).drew (Nat.le_refl _), grown_trans hgr (below_grown (Below.refl wr.heap.size wr).drew (Nat.le_refl _) _), by simpa using hbxr, by omega, HI.out.skip (Go.Lib.keeps_neg (by omega) (by rw [← HU.out, ← HV.out]))⟩
                case measure => simp [intOf]; omega
              · have HUV := Lib.hid huv
                have hown1 := hown.below (Below.refl wr.heap.size wr).drew (Nat.le_refl _)
                have hput := hown1.put HY.out kk u
                have HP := Lib.hid hput
                clear hput hown1
                go_wp2_with fail
                go_region_held3 (fun w' => w'.cell? ⟨g, k + k2, none⟩ = some (.int .i64 u) ∧ w'.cell? ⟨g, k + (k2 - 1), none⟩ = some (.int .i64 v) ∧ w'.cell? ⟨bx, 0, none⟩ = some (.func (.func 31) #[] #[]))
                  (first | go_keep)
                  (first | (go_at_call 48; refine (eqC_is _ _ bx _ (by simpa using hbxr)).mono ?_; rintro e w' ⟨rfl, rfl⟩))
                go_wp2_with fail
                go_roundw
                case rel => exact ⟨kk + 1, k2 + 1, ys.set kk u, by go_num, by go_num, by omega, by omega, by rw [Hid, List.length_set]; exact HY.out, HP.out.1, grown_trans (grown_trans hgr (below_grown (Below.refl wr.heap.size wr).drew (Nat.le_refl _) _)) HP.out.2, HP.out.2.cell (by simpa using hbxr) (by simp; omega), by omega, by have h := HI.out.keep (m := k + k2) (by simp; rw [← HN.out]; exact hlt2) (Go.Lib.keeps_pos (by rw [← HU.out, ← HV.out]; exact HUV.out)); rw [← HU.out] at h; rw [Hid, show (ys.set kk u).toArray = ys.toArray.setIfInBounds kk u by simp]; exact h⟩
                case measure => simp [intOf]; omega
            · have hend : k + k2 = n := by omega
              have hcl : ∀ ty, (Builtin.clear_ #[24] ty #[.slice (some ⟨g, kk, none⟩) (n - kk) (cap - kk)]).run Try.prog wr = .ok (.tuple #[]) (wr.setCells g kk (List.replicate (n - kk) (.int .i64 0))) :=
                fun ty => Go.Lib.run_clear_slice wr _ 3 ty (.int .i64 0) Try.underlying24 (fun w => by first | exact Try.zeroValue3 w | kernel_rfl | rfl) rfl rfl g kk _ _ (by omega) (fun j hj => by rw [(hown.at' HY.out (i := kk + j) (by rw [← HY.out]; omega)).1]; rfl) (fun j hj => (hown.at' HY.out (i := kk + j) (by rw [← HY.out]; omega)).2)
              have hcut := hown.cutTo HY.out (m := kk) (by omega)
              have hlt3 : (ys.take kk).length = kk := by rw [List.length_take, ← HY.out]; omega
              have hpast := OwnI.past hlt3.symm (n - kk) wr kk hcut (Nat.le_refl _)
              have HE : Hid (Go.Lib.compact xs = ys.take kk) := by
                have hI := HI.out
                rw [hend] at hI
                have hs : xs.toArray.size = n := by simp; rw [← HN.out]
                unfold Go.Lib.compact
                rw [← HN.out]
                have hlc : (Go.Lib.compactUpTo xs.toArray n).length = kk := hI.len
                apply List.ext_getElem (by rw [hlc, hlt3])
                intro j q1 q2
                rw [hlt3] at q2
                have := hI.low j q2
                rw [List.getElem?_eq_getElem q1, arr_at ys (by rw [← HY.out]; omega)] at this
                rw [List.getElem_take, Option.some.inj this, nth_get]
              have HPA := Lib.hid hpast
              have HL3 := Lib.hid hlt3
              have k3 : (kk : Int) ≤ (n : Int) := by omega
              have k4 : (kk : Int) ≤ (cap : Int) := by omega
              clear hcut hpast hlt3 hend
              go_wp2_with fail
              go_ret
              refine ⟨by rw [HE.out, HL3.out]; rfl, ?_, grown_trans hgr HPA.out.2⟩
              rw [HE.out, HL3.out]
              exact HPA.out.1
        · have HD := Lib.hid hdup
          go_wp2_with fail
          go_region_held3 (fun w' => w'.cell? ⟨g, k, none⟩ = some (.int .i64 x) ∧ w'.cell? ⟨g, k - 1, none⟩ = some (.int .i64 y) ∧ w'.cell? ⟨bx, 0, none⟩ = some (.func (.func 31) #[] #[]))
            (first | go_keep)
            (first | (go_at_call 48; refine (eqC_is _ _ bx _ (by simpa using hbxr)).mono ?_; rintro e w' ⟨rfl, rfl⟩))
          go_wp2_with fail
          go_roundw
          case rel =>
            refine ⟨k + 1, by omega, by omega, by go_num, hb.drew, fun j hj => ?_⟩
            by_cases e : j = k
            · subst e
              exact Go.Lib.keeps_pos (by rw [HX1.out, HX0.out]; exact HD.out)
            · exact HA.out j (by omega)
          case measure => simp [intOf]; omega
      · obtain rfl : k = n := by omega
        have HC : Hid (Go.Lib.compact xs = xs) := compact_all (by rw [← HN.out]; exact HA.out)
        go_wp2_with fail
        go_ret
        exact ⟨by rw [HC.out, ← HN.out]; rfl, by rw [HC.out, ← HN.out]; exact hor, below_grown hb (Nat.le_refl _) _⟩

theorem cmp_lt0 (x y : Int) : (Go.Lib.compareInt x y < 0) ↔ x < y := by
  unfold Go.Lib.compareInt
  by_cases h1 : x < y
  · simp [h1]
  · by_cases h2 : x > y <;> simp [h1, h2]
/-- a number and some bool are handed back -/
def RetI (v : Int) (e : Ending) : Prop := ∃ b, e = .returned (.tuple #[.int .i64 v, .bool b])
set_option maxRecDepth 100000 in
theorem binS_any (a : Option Addr) (ys : List Int) (cap : Nat) (t : Int) (w : World) (hx : Rd w a ys) (hi : Inc ys) (hl : ys.length ≤ 1048576) :
    Calls Try.prog 49 #[.slice a ys.length cap, .int .i64 t, .func (.func 31) #[] #[]] w fun e w' => RetI ((putK ys t : Nat) : Int) e ∧ w = w' := by
  have HI := Lib.hid hi
  clear hi
  go_enter Try.func49, Try.ntmps49
  go_wp2_with fail
  go_loop [9, 10] (fun i j => ∃ p q : Nat, i = .int .i64 p ∧ j = .int .i64 q ∧ p ≤ q ∧ q ≤ ys.length ∧ (∀ s, s < p → nth ys s < t) ∧ (∀ s, q ≤ s → s < ys.length → t ≤ nth ys s)) (fun i j => (intOf j).toNat - (intOf i).toNat)
  case atStart => exact ⟨0, ys.length, rfl, rfl, Nat.zero_le _, Nat.le_refl _, fun s hs => by omega, fun s h1 h2 => by omega⟩
  case round =>
    obtain ⟨p, q, rfl, rfl, hpq, hq, hlo, hhi⟩ := hrel
    have HLO := Lib.hid hlo
    have HHI := Lib.hid hhi
    clear hlo hhi
    by_cases hlt : p < q
    · obtain ⟨h, hh⟩ : ∃ h, h = (p + q) / 2 := ⟨_, rfl⟩
      have h1 : p ≤ h := by omega
      have h2 : h < q := by omega
      have h3 : (h : Int) < (ys.length : Int) := by omega
      have hI : ((p : Int) + (q : Int)) / 2 = (h : Int) := by omega
      clear hh
      obtain ⟨b, off, rfl, hbl, hc⟩ := hx.cell h (by omega)
      obtain ⟨r, hr⟩ : ∃ r, r = Go.Lib.compareInt (nth ys h) t := ⟨_, rfl⟩
      have HR := Lib.hid hr
      have HC : Hid (∀ w, Calls Try.prog 31 #[.int .i64 (nth ys h), .int .i64 t] w fun e w' => e = .returned (.int .i64 r) ∧ w' = w) := fun w => by rw [hr]; exact Sh_cmp_Compare_int _ _ _
      have hneg := cmp_lt0 (nth ys h) t
      rw [← hr] at hneg
      clear hr
      by_cases hz : r < 0
      · have hv := Lib.hid (hneg.1 hz)
        clear hneg
        go_wp2_with (go_at_call 31; refine (HC.out _).mono ?_; rintro e w' ⟨rfl, rfl⟩)
        go_round
        case rel =>
          refine ⟨h + 1, q, by go_num, rfl, by omega, hq, fun s hs => ?_, HHI.out⟩
          by_cases e : s = h
          · rw [e]; exact hv.out
          · rw [nth_get _ _ (by omega)]
            have h5 : nth ys h < t := hv.out
            rw [nth_get _ _ (by omega)] at h5
            have := (List.pairwise_iff_getElem.1 HI.out) s h (by omega) (by omega) (by omega)
            omega
        case measure => simp [intOf]; omega
      · have hv : Hid (t ≤ nth ys h) := by simp only [Hid]; omega
        clear hneg
        go_wp2_with (go_at_call 31; refine (HC.out _).mono ?_; rintro e w' ⟨rfl, rfl⟩)
        go_round
        case rel =>
          refine ⟨p, h, rfl, rfl, h1, by omega, HLO.out, fun s hs1 hs2 => ?_⟩
          by_cases e : s = h
          · rw [e]; exact hv.out
          · rw [nth_get _ _ (by omega)]
            have h5 : t ≤ nth ys h := hv.out
            rw [nth_get _ _ (by omega)] at h5
            have := (List.pairwise_iff_getElem.1 HI.out) h s (by omega) (by omega) (by omega)
            omega
        case measure => simp [intOf]; omega
    · obtain rfl : p = q := by omega
      have HK : Hid (putK ys t = p) := putK_at ys t p hq HLO.out (fun h => HHI.out p (Nat.le_refl _) h)
      by_cases hn : p < ys.length
      · have h3 : (p : Int) < (ys.length : Int) := by omega
        obtain ⟨b, off, rfl, hbl, hc⟩ := hx.cell p hn
        go_wp2_with (go_at_call 31; refine (Sh_cmp_Compare_int _ _ _).mono ?_; rintro e w' ⟨rfl, rfl⟩)
        go_ret2
        exact ⟨⟨_, by rw [HK.out]; rfl⟩, rfl⟩
      · have h3 : ¬ (p : Int) < (ys.length : Int) := by omega
        go_wp2_with fail
        go_ret2
        exact ⟨⟨_, by rw [HK.out]; rfl⟩, rfl⟩

theorem sliceClone_any (a : Option Addr) (xs : List Int) (cap : Nat) (w : World) (hx : Rd w a xs) (hn : xs.length ≤ 1048576) :
    Calls Try.prog 45 #[.slice a xs.length cap] w fun e w' => ∃ a' cap', e = .returned (.slice a' xs.length cap') ∧ OwnI w' w.heap.size (.slice a' xs.length cap') xs ∧ Below w.heap.size w w' := by
  obtain ⟨i0, hi, hz0, hz1, hz2⟩ := info_parts infoInt
  have hown : (w.alloc (.cells #[] 3)).ownsRow w.heap.size 3 1 (.slice (some ⟨w.heap.size, 0, none⟩) 0 0) 0 [] := World.ownsRow_lit w #[] 0 (Nat.le_refl _) (by simp [maxLen]) (by simp)
  cases a with
  | none =>
    have h0 : xs = [] := by
      rcases xs with _ | ⟨x, t⟩
      · rfl
      · obtain ⟨b, off, e, _⟩ := hx.cell 0 (by simp)
        cases e
    subst h0
    have hq := Lib.run_eql_slice_nil (P := Try.prog) w 24 3 none 0 cap 0 0 Try.underlying24
    simp only [Option.isNone_none] at hq
    go_enter Try.func45, Try.ntmps45
    go_wp2_with fail
    go_ret
    exact ⟨none, 0, rfl, OwnI.nil _ _, Below.refl _ _⟩
  | some ad =>
    have hx1 := hx.alloc (.cells #[] 3)
    have hq := Lib.run_eql_slice_nil (P := Try.prog) w 24 3 (some ad) xs.length cap 0 0 Try.underlying24
    simp only [Option.isNone_some] at hq
    go_enter Try.func45, Try.ntmps45
    go_wp2_with (at_builtin; refine wpList_append_own _ rfl _ _ 24 rfl w.heap.size 3 i0 (.int .i64 0) 1 8 Try.underlying24 hi hz0 hz1 hz2 rfl (by decide) _ 0 [] rfl hown ad xs.length cap (xs.map (Value.int .i64)) rfl (by simp) ?c1 ?c2 ?c3 ?c4 ?c5 ?_)
    case c1 => exact rd_news hx1
    case c2 => exact ints_one xs
    case c3 => unfold maxLen; omega
    case c4 => omega
    case c5 => simp
    · intro v' w1 hown' hgrow _
      try simp only [Nat.zero_add, List.nil_append] at hown'
      have hb : Below w.heap.size w w1 := ((Below.refl _ _).alloc (Nat.le_refl _) _).grown hgrow (by simp) (fun b e => by simp [Value.ownBlock] at e; omega)
      obtain ⟨a', cap', rfl⟩ := OwnI.form (xs := xs) hown'
      have HO := Lib.hid hown'
      clear hown' hgrow hown
      go_wp2_with fail
      go_ret
      exact ⟨a', cap', rfl, HO.out, hb⟩

theorem bang (l : List Int) {j : Nat} (h : j < l.length) : l.toArray[j]! = nth l j := by
  rw [getElem!_pos l.toArray j (by simpa using h), nth_get l j h]; simp
theorem cu_inc {l : List Int} (h : l.Pairwise (· ≤ ·)) : ∀ m, m ≤ l.length → Inc (Go.Lib.compactUpTo l.toArray m) ∧ (∀ x, x ∈ Go.Lib.compactUpTo l.toArray m ↔ ∃ j, j < m ∧ nth l j = x)
  | 0, _ => ⟨List.Pairwise.nil, fun x => by simp [Go.Lib.compactUpTo]⟩
  | m+1, hm => by
    obtain ⟨h1, h2⟩ := cu_inc h m (by omega)
    have hle : ∀ i j, i ≤ j → j < l.length → nth l i ≤ nth l j := fun i j hij hj => by
      rw [nth_get _ _ (by omega), nth_get _ _ hj]
      rcases Nat.lt_or_eq_of_le hij with h3 | rfl
      · exact (List.pairwise_iff_getElem.1 h) i j (by omega) hj h3
      · exact Int.le_refl _
    rw [Go.Lib.compactUpTo_succ, bang l (by omega)]
    cases hk : Go.Lib.keeps l.toArray m
    · rw [if_neg (by simp), List.append_nil]
      refine ⟨h1, fun x => ?_⟩
      rw [h2]
      constructor
      · rintro ⟨j, hj, e⟩
        exact ⟨j, by omega, e⟩
      · rintro ⟨j, hj, e⟩
        by_cases e2 : j = m
        · subst e2
          simp only [Go.Lib.keeps, decide_eq_false_iff_not, not_or, ne_eq, Classical.not_not] at hk
          rw [bang l (by omega), bang l (by omega)] at hk
          exact ⟨j - 1, by omega, by rw [← hk.2]; exact e⟩
        · exact ⟨j, by omega, e⟩
    · rw [if_pos rfl]
      constructor
      · unfold Inc
        rw [List.pairwise_append]
        refine ⟨h1, List.pairwise_singleton _ _, fun a ha b hb => ?_⟩
        rw [List.mem_singleton] at hb
        subst hb
        obtain ⟨j, hj, rfl⟩ := (h2 a).1 ha
        simp only [Go.Lib.keeps, decide_eq_true_eq] at hk
        rw [bang l (by omega), bang l (by omega)] at hk
        have hne : nth l m ≠ nth l (m - 1) := hk.resolve_left (by omega)
        have := hle j (m - 1) (by omega) (by omega)
        have := hle (m - 1) m (by omega) (by omega)
        omega
      · intro x
        rw [List.mem_append, h2, List.mem_singleton]
        constructor
        · rintro (⟨j, hj, e⟩ | e)
          · exact ⟨j, by omega, e⟩
          · exact ⟨m, by omega, e.symm⟩
        · rintro ⟨j, hj, e⟩
          by_cases e2 : j = m
          · subst e2; exact .inr e.symm
          · exact .inl ⟨j, by omega, e⟩
theorem compact_inc {l : List Int} (h : l.Pairwise (· ≤ ·)) : Inc (Go.Lib.compact l) := (cu_inc h l.length (Nat.le_refl _)).1
theorem compact_mem {l : List Int} (h : l.Pairwise (· ≤ ·)) (x : Int) : x ∈ Go.Lib.compact l ↔ x ∈ l := by
  have := (cu_inc h l.length (Nat.le_refl _)).2 x
  rw [Go.Lib.compact, this]
  constructor
  · rintro ⟨j, hj, rfl⟩
    rw [nth_get _ _ hj]; exact List.getElem_mem _
  · intro hx
    obtain ⟨j, hj, rfl⟩ := List.getElem_of_mem hx
    exact ⟨j, hj, nth_get _ _ hj⟩

theorem seen_compact (xs : List Int) : Go.Lib.compact (srt xs) = seenTo xs xs.length := by
  refine inc_ext (compact_inc (srt_le _)) (seenTo_inc xs _) (fun x => ?_)
  rw [compact_mem (srt_le _), srt_mem, seenTo_mem]
  constructor
  · intro h
    obtain ⟨j, hj, e⟩ := List.getElem_of_mem h
    exact ⟨j, hj, by rw [nth_get _ _ hj, e]⟩
  · rintro ⟨j, hj, rfl⟩
    rw [nth_get _ _ hj]; exact List.getElem_mem _
set_option maxRecDepth 100000 in
theorem levBy_any (a : Option Addr) (xs : List Int) (cap : Nat) (w : World) (hx : Rd w a xs) (hl : xs.length ≤ 1048576) :
    Calls Try.prog 30 #[.slice a xs.length cap, .func (.func 31) #[] #[]] w fun e w' => ∃ a' cap', e = .returned (.slice a' xs.length cap') ∧ OwnI w' w.heap.size (.slice a' xs.length cap') (lvbL xs) ∧ Below w.heap.size w w' := by
  obtain ⟨i0, hi, hz0, hz1, hz2⟩ := info_parts infoInt
  have hx1 := hx.alloc (.cells #[.func (.func 31) #[] #[]] 49)
  obtain ⟨n, hn⟩ : ∃ n, n = xs.length := ⟨_, rfl⟩
  have HN := Lib.hid hn
  go_enter Try.func30, Try.ntmps30
  clear hn
  go_wp2_with fail
  refine (sliceClone_any _ _ _ _ hx1 hl).mono ?_
  rintro e w1 ⟨a1, c1, rfl, ho1, hb1⟩
  have hbx : w1.cell? ⟨w.heap.size, 0, none⟩ = some (.func (.func 31) #[] #[]) := (hb1.cell (p := ⟨w.heap.size, 0, none⟩) (by simp)).trans (by simp)
  have hz1' : w.heap.size + 1 ≤ w1.heap.size := by have := hb1.size; simpa using this
  have bw1 : Below w.heap.size w w1 := Below.trans (by repeat (first | exact Below.refl _ _ | assumption | refine Below.alloc ?_ (by first | exact Nat.le_refl _ | (simp only [World.size_alloc, World.size_setCell, World.size_drew]; omega) | omega) _ | refine Below.setCell ?_ (by first | exact Nat.le_refl _ | (simp only [World.size_alloc, World.size_setCell, World.size_drew]; omega) | omega) _ | refine Below.drew ?_)) (hb1.mono (by first | (simp only [World.size_alloc, World.size_setCell, World.size_drew]; omega) | omega))
  have ho1' := ho1.mono (B' := w.heap.size + 1) (by simp)
  clear hb1 ho1 hx1
  go_wp2_with fail
  refine (sortFunc_own _ _ _ _ _ hl ho1').mono ?_
  rintro e w2 ⟨rfl, ho2, hg2⟩
  have hbx2 := hg2.cell hbx (ne_own (fun c e => by have := ho1'.lt c e; show c ≠ w.heap.size; omega))
  have bw2 := bw1.trans (below_of_grown hg2 (fun c e => by have := ho1'.lt c e; omega) bw1.size)
  have hz2' : w.heap.size + 1 ≤ w2.heap.size := Nat.le_trans hz1' hg2.size
  have hcf := compactFn_own a1 c1 (srt xs) (w.heap.size + 1) w.heap.size w2 (by rw [srt_len]; exact hl) ho2 hbx2 (by omega)
  rw [srt_len, seen_compact] at hcf
  have hyl := seenTo_len xs xs.length
  have hyi := seenTo_inc xs xs.length
  obtain ⟨ys, hys⟩ : ∃ ys, ys = seenTo xs xs.length := ⟨_, rfl⟩
  rw [← hys] at hcf hyl hyi
  have HYS := Lib.hid hys
  have HCF := Lib.hid hcf
  have hu2 := ho2.lt
  rw [srt_len] at hu2
  clear ho1' ho2 hg2 hbx hys hcf bw1 hz1'
  go_wp2_with fail
  refine HCF.out.mono ?_
  rintro e w3 ⟨rfl, ho3, hg3⟩
  have hbx3 := hg3.cell hbx2 (ne_own (fun c e => by have := hu2 c e; show c ≠ w.heap.size; omega))
  have bw3 := bw2.trans (below_of_grown hg3 (fun c e => by have := hu2 c e; omega) bw2.size)
  have hz3' : w.heap.size + 1 ≤ w3.heap.size := Nat.le_trans hz2' hg3.size
  have hr3 := ho3.rd
  clear ho3 hg3 hbx2 bw2 hz2' hu2 HCF
  go_wp2_with (at_make; refine wpList_make_full _ rfl (.tmp 18) (.tmp 18) 24 rfl w3.heap.size 3 i0 (.int .i64 0) 1 Try.underlying24 hi hz0 hz1 .i64 .i64 _ _ xs.length rfl rfl rfl rfl (by rw [hz2]; omega) (by unfold maxLen; omega) (Nat.le_refl _) ?_; intro w4 hown hgrow)
  have b4 : Below w3.heap.size w3 w4 := below_grown_none hgrow (Nat.le_refl _)
  have hown0 := made_row (lvbE xs) hown
  obtain ⟨g, hg⟩ : ∃ g, g = w3.heap.size := ⟨_, rfl⟩
  rw [← hg] at hown0 b4 ⊢
  have hgz : w.heap.size + 1 ≤ g := by omega
  have HG := Lib.hid hg
  clear hown hgrow hg
  go_wp2_with fail
  go_loopw [22] (fun i wr => ∃ k : Nat, k ≤ xs.length ∧ i = .int .i64 k ∧ OwnI wr g (.slice (some ⟨g, 0, none⟩) xs.length xs.length) (rowF (lvbE xs) xs.length k) ∧ Below g w3 wr) (fun i _ => xs.length - (intOf i).toNat)
  case atStart => exact ⟨0, Nat.zero_le _, rfl, hown0, b4⟩
  case round =>
    clear b4 hown0
    obtain ⟨k, hk, rfl, hown, hb⟩ := hrel
    have hb3 : Below w3.heap.size w3 wr := by rw [← HG.out]; exact hb
    have bwr := bw3.trans (hb3.mono bw3.size)
    by_cases hlt : k < xs.length
    · have k1 : (k : Int) < (xs.length : Int) := by omega
      obtain ⟨b1, off1, rfl, hbl1, hc1⟩ := (hx.below bwr).cell k hlt
      have hry := hr3.below hb3
      have hbxr := (hb3.cell (p := ⟨w.heap.size, 0, none⟩) (show w.heap.size < w3.heap.size by omega)).trans hbx3
      have ⟨ci, fi⟩ := hown.at' (by rw [rowF_len _ hk]) (i := k) (by rw [rowF_len _ hk]; exact hlt)
      have hput := hown.put (by rw [rowF_len _ hk]) k (lvbE xs k)
      rw [rowF_set _ hlt] at hput
      have HP := Lib.hid hput
      have HE : Hid (((putK ys (nth xs k) : Nat) : Int) = lvbE xs k) := by rw [Hid, HYS.out]; rfl
      clear hput
      go_wp2_with fail
      refine (binS_any _ _ _ _ _ hry hyi (by omega)).mono ?_
      rintro e w' ⟨⟨bb, rfl⟩, rfl⟩
      rw [HE.out]
      go_wp2_with fail
      go_roundw
      case rel => exact ⟨k + 1, by omega, by go_num, HP.out.1, hb.setCell (p := ⟨g, k, none⟩) (Nat.le_refl _) _⟩
      case measure => simp [intOf]; omega
    · obtain rfl : k = xs.length := by omega
      rw [rowF_end] at hown
      have ho : OwnI wr g (.slice (some ⟨g, 0, none⟩) xs.length xs.length) (lvbL xs) := hown
      clear hown
      go_wp2_with fail
      go_ret
      exact ⟨_, xs.length, rfl, ho.mono (by omega), bwr⟩

set_option maxRecDepth 100000 in
theorem iMean_any (a : Option Addr) (xss : List (List Int)) (cap : Nat) (w : World) (hx : RdS w a xss) :
    Calls Try.prog 9 #[.slice a xss.length cap] w fun e w' => ∃ a' cap', e = .returned (.tuple #[.slice a' (mnL xss).length cap', .bool (vtB xss)]) ∧ OwnI w' w.heap.size (.slice a' (mnL xss).length cap') (mnL xss) ∧ Below w.heap.size w w' := by
  obtain ⟨i0, hi, hz0, hz1, hz2⟩ := info_parts infoInt
  have hlen := hx.len
  go_enter Try.func9, Try.ntmps9
  go_wp2_with fail
  refine (iVoters_any _ _ _ _ hx).mono ?_
  rintro e w' ⟨rfl, rfl⟩
  cases hv : vtB xss
  · have HL : Hid (mnL xss = []) := by simp [Hid, mnL, hv]
    have HB := Lib.hid hv
    clear hv
    go_wp2_with fail
    refine bodyPost_ret (v := .tuple #[.slice none 0 0, .bool false]) (by simp [results, Try.results9, go_sem]) rfl ?_
    exact ⟨none, 0, by rw [HL.out, HB.out]; rfl, by rw [HL.out]; exact OwnI.nil _ _, Below.refl _ _⟩
  · have ⟨l1, l15, hall⟩ := vtB_iff.1 hv
    have n10 := vt_ten hv
    have HL : Hid (mnL xss = lvbL (fmap (sumTo xss xss.length) (rowL xss 0).length)) := by simp [Hid, mnL, hv]
    have HB := Lib.hid hv
    have HLEN : Hid (∀ k, k < xss.length → (rowL xss k).length = (rowL xss 0).length) := fun k hk => (vtOk_iff.1 (hall k hk)).2
    have HLV : Hid (∀ k, k < xss.length → lvB (rowL xss k) = true) := fun k hk => (vtOk_iff.1 (hall k hk)).1
    obtain ⟨n, hn⟩ : ∃ n, n = (rowL xss 0).length := ⟨_, rfl⟩
    rw [← hn] at n10 HL HLEN
    have HN := Lib.hid hn
    obtain ⟨b, off, a0, cap0, rfl, hbl, hc0, hr0⟩ := hx.row 0 (by omega)
    rw [Nat.add_zero, ← hn] at hc0
    have z1 : (0 : Int) < (xss.length : Int) := by omega
    clear hv hall hn hr0
    go_wp2_with (at_make; refine wpList_make_full _ rfl (.tmp 15) (.tmp 15) 24 rfl w.heap.size 3 i0 (.int .i64 0) 1 Try.underlying24 hi hz0 hz1 .i64 .i64 _ _ n rfl rfl rfl rfl (by rw [hz2]; omega) (by unfold maxLen; omega) (Nat.le_refl _) ?_; intro w3 hown hgrow)
    have b3 : Below w.heap.size w w3 := below_grown_none hgrow (Nat.le_refl _)
    have hown0 := made_row (fun _ => 0) hown
    rw [show rowF (fun _ => 0) n 0 = fmap (sumTo xss 0) n from sum_zero xss n] at hown0
    clear hown hgrow hc0
    go_wp2_with fail
    go_loopw [19] (fun i wr => ∃ k : Nat, k ≤ xss.length ∧ i = .int .i64 k ∧ OwnI wr w.heap.size (.slice (some ⟨w.heap.size, 0, none⟩) n n) (fmap (sumTo xss k) n) ∧ Below w.heap.size w wr) (fun i _ => xss.length - (intOf i).toNat)
    case atStart => exact ⟨0, Nat.zero_le _, rfl, hown0, b3⟩
    case round =>
      clear b3 hown0
      obtain ⟨k, hk, rfl, hown, hb⟩ := hrel
      by_cases hlt : k < xss.length
      · have k1 : (k : Int) < (xss.length : Int) := by omega
        obtain ⟨b2, off2, a2, cap2, e2, hbl2, hcw, hrw⟩ := hx.row k hlt
        rw [HLEN.out k hlt] at hcw
        simp only [Option.some.injEq, Addr.mk.injEq, and_true] at e2
        obtain ⟨rfl, rfl⟩ := e2
        have hc2 := (hb.cell (p := ⟨b, off + k, none⟩) hbl2).trans hcw
        clear hcw
        have hrl : Hid ((rowL xss k).length = n) := HLEN.out k hlt
        go_wp2_with fail
        obtain ⟨wo, rfl⟩ : ∃ wo : World, wo = wr := ⟨_, rfl⟩
        go_loopw [25] (fun i' wi => ∃ j : Nat, j ≤ n ∧ i' = .int .i64 j ∧ OwnI wi w.heap.size (.slice (some ⟨w.heap.size, 0, none⟩) n n) (fmap (sumMid xss k j) n) ∧ Below w.heap.size w wi) (fun i _ => n - (intOf i).toNat)
        case atStart => exact ⟨0, Nat.zero_le _, rfl, by rw [mid_zero]; exact hown, hb⟩
        case round =>
          clear hown hb hc2
          obtain ⟨j, hj, rfl, hown, hb⟩ := hrel
          by_cases hjl : j < n
          · have j0 : (0 : Int) ≤ (j : Int) := by omega
            have j1 : (j : Int) < (n : Int) := by omega
            obtain ⟨b4, off4, rfl, hbl4, hc4⟩ := (hrw.below hb).cell j (by rw [hrl.out]; exact hjl)
            have hlv : ∀ m, m < xss.length → 0 ≤ nth (rowL xss m) j ∧ nth (rowL xss m) j ≤ 10 := fun m hm => by
              have h1 := lv_lt (HLV.out m hm) (k := j) (by rw [HLEN.out m hm]; exact hjl)
              rw [HLEN.out m hm] at h1
              omega
            have ⟨s0, s1⟩ := sumTo_bd (xss := xss) (i := j) (k := k) (fun m hm => hlv m (by omega))
            have ⟨v0, v1⟩ := hlv k hlt
            have ⟨ci, fi⟩ := hown.at' (fmap_len _ _).symm (i := j) (by rw [fmap_len]; exact hjl)
            rw [show nth (fmap (sumMid xss k j) n) j = sumTo xss k j from by rw [show nth (fmap (sumMid xss k j) n) j = _ from fmap_nth _ hjl, sumMid, if_neg (by omega)]] at ci
            have hput := hown.put (fmap_len _ _).symm j (sumTo xss (k+1) j)
            rw [mid_step xss k n j hjl] at hput
            have HP := Lib.hid hput
            have HE : Hid (sumTo xss (k+1) j = sumTo xss k j + nth (rowL xss k) j) := rfl
            obtain ⟨S, hS⟩ : ∃ S, S = sumTo xss k j := ⟨_, rfl⟩
            rw [← hS] at ci s0 s1 HE
            clear hput hS hlv
            go_wp2_with fail
            go_roundw
            case rel =>
              rw [← HE.out]
              exact ⟨j + 1, by omega, by go_num, HP.out.1, hb.setCell (p := ⟨w.heap.size, j, none⟩) (Nat.le_refl _) _⟩
            case measure => simp [intOf]; omega
          · obtain rfl : j = n := by omega
            rw [mid_full] at hown
            go_wp2_with fail
            go_roundw
            case rel => exact ⟨k + 1, by omega, by go_num, hown, hb⟩
            case measure => simp [intOf]; omega
      · obtain rfl : k = xss.length := by omega
        have hfl : (fmap (sumTo xss xss.length) n).length = n := fmap_len _ _
        have hrd := hown.rd
        have HF := Lib.hid (levBy_any (some ⟨w.heap.size, 0, none⟩) (fmap (sumTo xss xss.length) n) n)
        rw [hfl] at HF
        clear hfl
        go_wp2_with fail
        refine (HF.out _ hrd (by omega)).mono ?_
        rintro e w5 ⟨a5, c5, rfl, ho5, hb5⟩
        go_wp2_with fail
        refine bodyPost_ret (v := .tuple #[.slice a5 n c5, .bool true]) (by simp [results, Try.results9, go_sem]) rfl ?_
        have hll : (mnL xss).length = n := by rw [HL.out, lvbL_len, fmap_len]
        refine ⟨a5, c5, by rw [hll, HB.out], ?_, hb.trans (hb5.mono hb.size)⟩
        rw [hll, HL.out]
        exact ho5.mono hb.size

/-- the marks k, k + 1, .. -/
def marks (k : Int) (n : Nat) : List Int := (List.range n).map (fun (j : Nat) => k + (j : Int))
theorem marks_len (k : Int) (n : Nat) : (marks k n).length = n := by simp [marks]
theorem marks_nth {k : Int} {n j : Nat} (h : j < n) : nth (marks k n) j = k + j := by
  simp [nth, marks, h]
theorem mark_step (k : Int) (xs : List Int) (j : Nat) (h : j < xs.length) :
    ((marks k j ++ xs.drop j).map (Value.int .i64)).set j (.int .i64 (k + j)) = (marks k (j+1) ++ xs.drop (j+1)).map (Value.int .i64) := by
  apply List.ext_getElem?
  intro i
  rw [List.getElem?_set]
  by_cases hj : j = i
  · subst hj
    rw [if_pos rfl, if_pos (by simp [marks_len]; omega), List.getElem?_map, List.getElem?_append_left (by rw [marks_len]; omega)]
    simp [marks]
  · simp only [hj, if_false, List.getElem?_map, List.getElem?_append, marks_len, List.getElem?_drop]
    by_cases h1 : i < j
    · have h2 : i < j + 1 := by omega
      simp [h1, h2, marks]
    · have h2 : ¬ i < j + 1 := by omega
      have h3 : j + (i - j) = j + 1 + (i - (j + 1)) := by omega
      simp [h1, h2, h3]
theorem own_ne {v u : Value} (h : ∀ c, v.ownBlock = some c → u.ownBlock ≠ some c) : v.ownBlock = none ∨ v.ownBlock ≠ u.ownBlock := by
  cases hv : v.ownBlock with
  | none => exact .inl rfl
  | some c => exact .inr (fun e => h c hv e.symm)

theorem markIntS_any (a : Option Addr) (xs : List Int) (cap : Nat) (k : Int) (B : Nat) (w : World) (h0 : 0 ≤ k) (h1 : k ≤ 1099511627776) (hn : xs.length ≤ 1048576) (ho : OwnI w B (.slice a xs.length cap) xs) :
    Calls Try.prog 13 #[.slice a xs.length cap, .int .i64 k] w fun e w' => e = .returned (.int .i64 (k + xs.length)) ∧ OwnI w' B (.slice a xs.length cap) (marks k xs.length) ∧ w.grownBy w' (Value.slice a xs.length cap).ownBlock := by
  go_enter Try.func13, Try.ntmps13
  go_wp2_with fail
  go_loopw [1, 5] (fun k' i wr => ∃ j : Nat, j ≤ xs.length ∧ i = .int .i64 j ∧ k' = .int .i64 (k + j) ∧ wr.ownsRow B 3 1 (.slice a xs.length cap) xs.length ((marks k j ++ xs.drop j).map (Value.int .i64)) ∧ w.grownBy wr (Value.slice a xs.length cap).ownBlock) (fun _ i _ => xs.length - (intOf i).toNat)
  case atStart => exact ⟨0, Nat.zero_le _, rfl, by simp, by (have e : marks k 0 ++ xs.drop 0 = xs := by simp [marks]); rw [e]; exact ho, World.grownBy.refl _ _⟩
  case round =>
    obtain ⟨j, hj, rfl, rfl, hown, hg⟩ := hrel
    by_cases hlt : j < xs.length
    · obtain ⟨g, rfl⟩ : ∃ g, a = some ⟨g, 0, none⟩ := by
        rcases hown.2 with ⟨e, h⟩ | ⟨g, c, cur, e, _⟩
        · omega
        · simp only [Value.slice.injEq] at e
          exact ⟨g, e.1⟩
      have hst := World.ownsRow.stored hown j (.int .i64 (k + j))
      rw [mark_step k xs j hlt] at hst
      have hcc := World.ownsRow.cellAt hown j (by omega)
      have hfr := World.ownsRow.frozenAt hown j
      have hcc' : ∃ u, wr.cell? ⟨g, j, none⟩ = some u := by
        rw [hcc]
        exact ⟨_, List.getElem?_eq_getElem (by simp [marks_len]; omega)⟩
      obtain ⟨u, hu⟩ := hcc'
      have Hst := Lib.hid hst
      have Hg := Lib.hid (grown_trans hg hst.2)
      clear hst hcc hown hg
      go_wp2
      go_roundw
      case rel => exact ⟨j + 1, by omega, by go_num, by go_num, Hst.out.1, Hg.out⟩
      case measure => simp [intOf]; omega
    · obtain rfl : j = xs.length := by omega
      go_wp2
      go_ret
      refine ⟨rfl, ?_, hg⟩
      have e : marks k xs.length ++ xs.drop xs.length = marks k xs.length := by simp
      rw [e] at hown
      show World.ownsRow _ _ _ _ _ _ _
      rw [marks_len]
      exact hown

theorem markIntSS_any (g : Nat) (vl : List Value) (xss : List (List Int)) (cap : Nat) (k : Int) (B lo hi : Nat) (w : World) (h0 : 0 ≤ k) (h1 : k ≤ 1048576) (hn : xss.length + totS xss xss.length ≤ 1048576) (ho : OwnS w B g vl xss) (hc : ∀ i, i < xss.length → ∀ c, (valAt vl i).ownBlock = some c → lo ≤ c ∧ c < hi) :
    Calls Try.prog 12 #[.slice (some ⟨g, 0, none⟩) xss.length cap, .int .i64 k] w fun e w' => e = .returned (.int .i64 (k + ((totS xss xss.length : Nat) : Int))) ∧ TouchS lo hi w w' := by
  have hmax := ho.max
  have HC := Lib.hid hc
  have HAP := Lib.hid ho.apart
  clear hc
  go_enter Try.func12, Try.ntmps12
  go_wp2_with fail
  go_loopw [1, 5] (fun k' i wr => ∃ j : Nat, j ≤ xss.length ∧ i = .int .i64 j ∧ k' = .int .i64 (k + ((totS xss j : Nat) : Int)) ∧ TouchS lo hi w wr ∧ g < wr.heap.size ∧ (∀ i, j ≤ i → i < xss.length → wr.cell? ⟨g, i, none⟩ = some (valAt vl i) ∧ OwnI wr (g + 1) (valAt vl i) (rowL xss i))) (fun _ i _ => xss.length - (intOf i).toNat)
  case atStart => exact ⟨0, Nat.zero_le _, rfl, by simp [totS], TouchS.refl _ _ _, ho.hi, fun i _ hi => ⟨ho.cell i hi, ho.row i hi⟩⟩
  case round =>
    obtain ⟨j, hj, rfl, rfl, ht, hg, hall⟩ := hrel
    have HA := Lib.hid hall
    clear hall
    by_cases hlt : j < xss.length
    · have ⟨hcj, hoj⟩ := HA.out j (Nat.le_refl _) hlt
      have hrt := row_tot (xss := xss) hlt
      have hmn := totS_mono (xss := xss) (j := j) (k := xss.length) (by omega)
      have HN : Hid (totS xss (j+1) = totS xss j + (rowL xss j).length) := rfl
      have k1 : (j : Int) < (xss.length : Int) := by omega
      have hcb := HC.out j hlt
      have HCB := Lib.hid hcb
      have HNX := Lib.hid (fun i (h : j < i) (h2 : i < xss.length) => HAP.out j i h h2)
      obtain ⟨vj, hvj⟩ : ∃ vj, vj = valAt vl j := ⟨_, rfl⟩
      rw [← hvj] at hcj hoj HCB HNX
      clear hvj hcb
      obtain ⟨aj, capj, rfl⟩ := hoj.form
      have hro : (rowL xss j).length ≤ 1048576 := by omega
      go_wp2_with fail
      refine (markIntS_any _ _ _ _ _ _ (by omega) (by omega) hro hoj).mono ?_
      rintro e w2 ⟨rfl, ho2, hg2⟩
      go_wp2_with fail
      go_roundw
      case rel =>
        refine ⟨j + 1, by omega, by go_num, val_int (by rw [HN.out]; omega), ht.step hg2 HCB.out, Nat.lt_of_lt_of_le hg hg2.size, fun i h2 h3 => ?_⟩
        have ⟨hci, hoi⟩ := HA.out i (by omega) h3
        refine ⟨hg2.cell hci (ne_own (fun c e => by have := hoj.lt c e; show c ≠ g; omega)), hoi.kept hg2 (own_ne (fun c e e2 => by have := HNX.out i (by omega) h3 c c e2 e; omega))⟩
      case measure => simp [intOf]; omega
    · obtain rfl : j = xss.length := by omega
      go_wp2_with fail
      go_ret
      exact ⟨rfl, ht⟩

theorem heldIntS_any (a : Option Addr) (n cap : Nat) (k : Int) (w : World) (h0 : 0 ≤ k) (h1 : k ≤ 1099511627776) (hn : n ≤ 1048576) (hx : Rd w a (marks k n)) :
    Calls Try.prog 14 #[.slice a n cap, .int .i64 k] w fun e w' => e = .returned (.int .i64 (k + n)) ∧ Below w.heap.size w w' := by
  go_enter Try.func14, Try.ntmps14
  go_wp2_with fail
  go_loop [1, 5] (fun k' i => ∃ j : Nat, j ≤ n ∧ i = .int .i64 j ∧ k' = .int .i64 (k + j)) (fun _ i => n - (intOf i).toNat)
  case atStart => exact ⟨0, Nat.zero_le _, rfl, by simp⟩
  case round =>
    obtain ⟨j, hj, rfl, rfl⟩ := hrel
    by_cases hlt : j < n
    · obtain ⟨b, off, rfl, hbl, hc⟩ := hx.cell j (by rw [marks_len]; exact hlt)
      rw [marks_nth hlt] at hc
      go_wp2_with fail
      go_round
      case rel => exact ⟨j + 1, by omega, by go_num, by go_num⟩
      case measure => simp [intOf]; omega
    · obtain rfl : j = n := by omega
      go_wp2_with fail
      go_ret
      exact ⟨rfl, (by repeat (first | exact Below.refl _ _ | assumption | refine Below.alloc ?_ (by first | exact Nat.le_refl _ | (simp only [World.size_alloc, World.size_setCell, World.size_drew]; omega) | omega) _ | refine Below.setCell ?_ (by first | exact Nat.le_refl _ | (simp only [World.size_alloc, World.size_setCell, World.size_drew]; omega) | omega) _ | refine Below.drew ?_))⟩

theorem walk (a0 : Option Addr) (xss0 : List (List Int)) (cap0 : Nat) (w : World) (hx0 : RdS w a0 xss0) :
    Calls Try.prog 3 #[.slice a0 xss0.length cap0] w fun e w' => e = .returned (.bool true) ∧ Below w.heap.size w w' := by
  have hR0 : (mnL xss0).length ≤ 1048576 := mnL_len xss0
  by_cases hs0 : 1048576 < ((xss0.length + totS xss0 xss0.length : Nat) : Int)
  · go_enter Try.func3, Try.ntmps3
    go_wp2_with fail
    refine (szIntSS_no (by omega) hx0).mono ?_
    rintro e w' ⟨rfl, rfl⟩
    go_wp2_with fail
    go_ret
    exact ⟨rfl, (by repeat (first | exact Below.refl _ _ | assumption | refine Below.alloc ?_ (by first | exact Nat.le_refl _ | (simp only [World.size_alloc, World.size_setCell, World.size_drew]; omega) | omega) _ | refine Below.setCell ?_ (by first | exact Nat.le_refl _ | (simp only [World.size_alloc, World.size_setCell, World.size_drew]; omega) | omega) _ | refine Below.drew ?_))⟩
  go_enter Try.func3, Try.ntmps3
  go_wp2_with fail
  refine (szIntSS_ok (by omega) hx0).mono ?_
  rintro e w' ⟨rfl, rfl⟩
  go_wp2_with fail
  refine (toIntSS_any _ _ _ _ (hx0.below (Below.refl _ _)) (by omega)).mono ?_
  rintro e w1 ⟨pT0, qT0, lT0, rfl, ho, hb⟩
  have ht : Below w.heap.size w w1 := Below.trans (by repeat (first | exact Below.refl _ _ | assumption | refine Below.alloc ?_ (by first | exact Nat.le_refl _ | (simp only [World.size_alloc, World.size_setCell, World.size_drew]; omega) | omega) _ | refine Below.setCell ?_ (by first | exact Nat.le_refl _ | (simp only [World.size_alloc, World.size_setCell, World.size_drew]; omega) | omega) _ | refine Below.drew ?_)) (hb.mono (by first | (simp only [World.size_alloc, World.size_setCell, World.size_drew]; omega) | omega))
  have z1 : w.heap.size ≤ w1.heap.size := ht.size
  have bw1 : Below w.heap.size w w1 := ht
  have T0_1 := ho
  have UT0 := T0_1.cut (Nat.le_refl _)
  clear ho
  clear ht hb
  go_wp2_with fail
  refine (sMean_any _ _ _ _ (T0_1.rd)).mono ?_
  rintro e w2 ⟨pR0, qR0, rfl, ho0, hb⟩
  have ht : Below w1.heap.size w1 w2 := hb
  have z2 : w1.heap.size ≤ w2.heap.size := ht.size
  have bw2 : Below w.heap.size w w2 := bw1.trans (ht.mono bw1.size)
  have T0_2 := T0_1.below ht (Nat.le_refl _)
  clear T0_1
  have R0_2 := ho0
  have UR0 := R0_2.cut (Nat.le_refl _)
  clear ho0
  clear ht hb
  go_wp2_with fail
  clear T0_2 UT0
  refine (toIntSS_any _ _ _ _ (hx0.below bw2) (by omega)).mono ?_
  rintro e w3 ⟨pX0, qX0, lX0, rfl, ho, hb⟩
  have ht : Below w2.heap.size w2 w3 := hb
  have z3 : w2.heap.size ≤ w3.heap.size := ht.size
  have bw3 : Below w.heap.size w w3 := bw2.trans (ht.mono bw2.size)
  have R0_3 := R0_2.below ht (Nat.le_refl _)
  clear R0_2
  have X0_3 := ho
  have UX0 := X0_3.cut (Nat.le_refl _)
  clear ho
  clear ht hb
  go_wp2_with fail
  refine (iMean_any _ _ _ _ (X0_3.rd)).mono ?_
  rintro e w4 ⟨pG0, qG0, rfl, ho0, hb⟩
  have ht : Below w3.heap.size w3 w4 := hb
  have z4 : w3.heap.size ≤ w4.heap.size := ht.size
  have bw4 : Below w.heap.size w w4 := bw3.trans (ht.mono bw3.size)
  have R0_4 := R0_3.below ht (Nat.le_refl _)
  have X0_4 := X0_3.below ht (Nat.le_refl _)
  clear R0_3 X0_3
  have G0_4 := ho0
  have UG0 := G0_4.cut (Nat.le_refl _)
  clear ho0
  clear ht hb
  go_wp2_with fail
  refine (eqIntS_any _ _ (mnL xss0) (mnL xss0) _ _ _ (G0_4.rd) (R0_4.rd)).mono ?_
  rw [eqL_self]
  rintro e w5 ⟨rfl, hb⟩
  have ht : Below w4.heap.size w4 w5 := hb
  have z5 : w4.heap.size ≤ w5.heap.size := ht.size
  have bw5 : Below w.heap.size w w5 := bw4.trans (ht.mono bw4.size)
  have R0_5 := R0_4.below ht (Nat.le_refl _)
  have X0_5 := X0_4.below ht (Nat.le_refl _)
  have G0_5 := G0_4.below ht (Nat.le_refl _)
  clear R0_4 X0_4 G0_4
  clear ht hb
  go_wp2_with fail
  refine (toIntSS_any _ _ _ _ (hx0.below bw5) (by omega)).mono ?_
  rintro e w6 ⟨pY0, qY0, lY0, rfl, ho, hb⟩
  have ht : Below w5.heap.size w5 w6 := hb
  have z6 : w5.heap.size ≤ w6.heap.size := ht.size
  have bw6 : Below w.heap.size w w6 := bw5.trans (ht.mono bw5.size)
  have R0_6 := R0_5.below ht (Nat.le_refl _)
  have X0_6 := X0_5.below ht (Nat.le_refl _)
  have G0_6 := G0_5.below ht (Nat.le_refl _)
  clear R0_5 X0_5 G0_5
  have Y0_6 := ho
  have UY0 := Y0_6.cut (Nat.le_refl _)
  clear ho
  clear ht hb
  go_wp2_with fail
  refine (eqIntSS_same _ _ xss0 _ _ _ X0_6.rd Y0_6.rd).mono ?_
  rintro e w7 ⟨rfl, hb⟩
  have ht : Below w6.heap.size w6 w7 := hb
  have z7 : w6.heap.size ≤ w7.heap.size := ht.size
  have bw7 : Below w.heap.size w w7 := bw6.trans (ht.mono bw6.size)
  have R0_7 := R0_6.below ht (Nat.le_refl _)
  have X0_7 := X0_6.below ht (Nat.le_refl _)
  have G0_7 := G0_6.below ht (Nat.le_refl _)
  have Y0_7 := Y0_6.below ht (Nat.le_refl _)
  clear R0_6 X0_6 G0_6 Y0_6
  clear ht hb
  go_wp2_with fail
  clear Y0_7 UY0
  refine (markIntSS_any _ _ _ _ _ _ w2.heap.size w3.heap.size _ (by omega) (by omega) (by omega) X0_7 (fun i hi c e => by have h1 := UX0.2 i hi c e; have h2 := UX0.1; omega)).mono ?_
  rintro e w8 ⟨rfl, hg⟩
  have z8 : w7.heap.size ≤ w8.heap.size := hg.size
  have bw8 : Below w.heap.size w w8 := bw7.trans (hg.below (by omega) (by omega))
  have R0_8 := R0_7.touch hg (fun c e => by have := UR0 c e; omega)
  have G0_8 := G0_7.touch hg (fun c e => by have := UG0 c e; omega)
  clear R0_7 X0_7 G0_7 hg UX0
  go_wp2_with fail
  refine (eqIntS_any _ _ (mnL xss0) (mnL xss0) _ _ _ (G0_8.rd) (R0_8.rd)).mono ?_
  rw [eqL_self]
  rintro e w9 ⟨rfl, hb⟩
  have ht : Below w8.heap.size w8 w9 := hb
  have z9 : w8.heap.size ≤ w9.heap.size := ht.size
  have bw9 : Below w.heap.size w w9 := bw8.trans (ht.mono bw8.size)
  have R0_9 := R0_8.below ht (Nat.le_refl _)
  have G0_9 := G0_8.below ht (Nat.le_refl _)
  clear R0_8 G0_8
  clear ht hb
  go_wp2_with fail
  refine (markIntS_any _ _ _ _ _ _ (by omega) (by omega) hR0 G0_9).mono ?_
  rintro e w10 ⟨rfl, ho, hg⟩
  have z10 : w9.heap.size ≤ w10.heap.size := hg.size
  have bw10 : Below w.heap.size w w10 := bw9.trans (below_of_grown hg (fun b e => by have := UG0 b e; omega) (by omega))
  have R0_10 := R0_9.kept hg (own_ne (fun c e e2 => by have h1 := UR0 c e; have h2 := UG0 c e2; omega))
  clear R0_9 G0_9 hg
  have G0_10 := ho
  clear ho
  go_wp2_with fail
  refine (heldIntS_any _ _ _ _ _ (by omega) (by omega) hR0 G0_10.rd).mono ?_
  rintro e w11 ⟨rfl, hb⟩
  have ht : Below w10.heap.size w10 w11 := hb
  have z11 : w10.heap.size ≤ w11.heap.size := ht.size
  have bw11 : Below w.heap.size w w11 := bw10.trans (ht.mono bw10.size)
  have R0_11 := R0_10.below ht (Nat.le_refl _)
  have G0_11 := G0_10.below ht (Nat.le_refl _)
  clear R0_10 G0_10
  clear ht hb
  go_wp2_with fail
  refine (toIntSS_any _ _ _ _ (hx0.below bw11) (by omega)).mono ?_
  rintro e w12 ⟨pV0, qV0, lV0, rfl, ho, hb⟩
  have ht : Below w11.heap.size w11 w12 := hb
  have z12 : w11.heap.size ≤ w12.heap.size := ht.size
  have bw12 : Below w.heap.size w w12 := bw11.trans (ht.mono bw11.size)
  have R0_12 := R0_11.below ht (Nat.le_refl _)
  have G0_12 := G0_11.below ht (Nat.le_refl _)
  clear R0_11 G0_11
  have V0_12 := ho
  have UV0 := V0_12.cut (Nat.le_refl _)
  clear ho
  clear ht hb
  go_wp2_with fail
  refine (iMean_any _ _ _ _ (V0_12.rd)).mono ?_
  rintro e w13 ⟨pH0, qH0, rfl, ho0, hb⟩
  have ht : Below w12.heap.size w12 w13 := hb
  have z13 : w12.heap.size ≤ w13.heap.size := ht.size
  have bw13 : Below w.heap.size w w13 := bw12.trans (ht.mono bw12.size)
  have R0_13 := R0_12.below ht (Nat.le_refl _)
  have G0_13 := G0_12.below ht (Nat.le_refl _)
  have V0_13 := V0_12.below ht (Nat.le_refl _)
  clear R0_12 G0_12 V0_12
  have H0_13 := ho0
  have UH0 := H0_13.cut (Nat.le_refl _)
  clear ho0
  clear ht hb
  go_wp2_with fail
  clear V0_13 UV0
  refine (eqIntS_any _ _ (mnL xss0) (mnL xss0) _ _ _ (H0_13.rd) (R0_13.rd)).mono ?_
  rw [eqL_self]
  rintro e w14 ⟨rfl, hb⟩
  have ht : Below w13.heap.size w13 w14 := hb
  have z14 : w13.heap.size ≤ w14.heap.size := ht.size
  have bw14 : Below w.heap.size w w14 := bw13.trans (ht.mono bw13.size)
  have R0_14 := R0_13.below ht (Nat.le_refl _)
  have G0_14 := G0_13.below ht (Nat.le_refl _)
  have H0_14 := H0_13.below ht (Nat.le_refl _)
  clear R0_13 G0_13 H0_13
  clear ht hb
  go_wp2_with fail
  refine (heldIntS_any _ _ _ _ _ (by omega) (by omega) hR0 G0_14.rd).mono ?_
  rintro e w15 ⟨rfl, hb⟩
  have ht : Below w14.heap.size w14 w15 := hb
  have z15 : w14.heap.size ≤ w15.heap.size := ht.size
  have bw15 : Below w.heap.size w w15 := bw14.trans (ht.mono bw14.size)
  have R0_15 := R0_14.below ht (Nat.le_refl _)
  have G0_15 := G0_14.below ht (Nat.le_refl _)
  have H0_15 := H0_14.below ht (Nat.le_refl _)
  clear R0_14 G0_14 H0_14
  clear ht hb
  go_wp2_with fail
  go_ret
  exact ⟨rfl, bw15⟩

theorem rd_of_trod {H : Type} {enc : TypeId × Value → H} {W : World} {fuel : Nat} {c : Value} {y : DataW H × List MemPlace}
    (h : DataW.trod enc Try.prog W 0 (fun _ => true) true fuel 24 [c] = some y) : ∃ (a : Option Addr) (xs : List Int) (cap : Nat), c = .slice a xs.length cap ∧ Rd W a xs ∧ ∀ k, k < xs.length → (Lit.int .i64 (nth xs k)).wf = true := by
  rcases Go.ChangeShapes.open_ints Try.underlying24 Try.underlying3 (by kernel_rfl) h with ⟨hcs, _⟩ | ⟨x, len, cap, zs, hcs, _, hl, hm, hz, _, hcell, hwf⟩
  · simp only [List.cons.injEq, and_true] at hcs
    exact ⟨none, [], 0, hcs, ⟨by simp, fun k hk => by simp at hk⟩, fun k hk => by simp at hk⟩
  · simp only [List.cons.injEq, and_true] at hcs
    simp only [if_true] at hz
    have hlen : (zs.take len).length = len := by rw [List.length_take]; omega
    have hn : ∀ k, k < len → nth (zs.take len) k = zs.getD k 0 := by
      intro k hk
      simp only [nth, List.getD_eq_getElem?_getD, List.getElem?_take, hk, if_true]
    refine ⟨some x, zs.take len, cap, by rw [hlen]; exact hcs, ⟨by rw [hlen]; unfold maxLen at hm; omega, fun k hk => ?_⟩, fun k hk => ?_⟩
    · rw [hlen] at hk
      obtain ⟨b, off, sp⟩ := x
      have h0 := hcell 0 (by omega)
      have hsp : sp = none := by simpa [Addr.add] using World.cell?_spot h0
      subst hsp
      have hk' := hcell k (by omega)
      rw [Addr.add_lit] at hk'
      exact ⟨b, off, rfl, World.block_lt_of_cell? _ _ h0, by rw [hk', hn k hk]⟩
    · rw [hlen] at hk
      rw [hn k hk]
      have hk2 : k < zs.length := by omega
      exact hwf _ (by rw [List.getD_eq_getElem?_getD, List.getElem?_eq_getElem hk2]; exact List.getElem_mem hk2)

theorem own : ownKnob Try.prog.godebug = none := by kernel_rfl
theorem laidOut : laidOutB Try.prog = true := by kernel_rfl
theorem wf_bd {n : Int} (h : (Lit.int .i64 n).wf = true) : -9223372036854775808 ≤ n ∧ n ≤ 9223372036854775807 := by
  simp [Lit.wf, IntKind.min, IntKind.max, IntKind.bits, IntKind.signed] at h
  omega

theorem rdS_of_trod {H : Type} {enc : TypeId × Value → H} {W : World} {fuel : Nat} {c : Value} {y : DataW H × List MemPlace}
    (h : DataW.trod enc Try.prog W 0 (fun _ => true) true fuel 22 [c] = some y) : ∃ (a : Option Addr) (xss : List (List Int)) (cap : Nat), c = .slice a xss.length cap ∧ RdS W a xss := by
  rcases Go.Deep.open_int_rows Try.underlying22 Try.underlying24 Try.underlying3 (by kernel_rfl) (by kernel_rfl) h with ⟨hcs, _⟩ | ⟨x, len, cap, A, L, C, Z, hcs, _, hl, hm, _, hr⟩
  · simp only [List.cons.injEq, and_true] at hcs
    exact ⟨none, [], 0, hcs, ⟨by simp, fun k hk => by simp at hk⟩⟩
  · simp only [List.cons.injEq, and_true] at hcs
    have hlen : ((List.range len).map fun r => (Z r).take (L r)).length = len := by simp
    refine ⟨some x, (List.range len).map fun r => (Z r).take (L r), cap, by rw [hlen]; exact hcs, ⟨by rw [hlen]; unfold maxLen at hm; omega, fun k hk => ?_⟩⟩
    rw [hlen] at hk
    rw [show rowL ((List.range len).map fun r => (Z r).take (L r)) k = (Z k).take (L k) by simp [rowL, hk]]
    obtain ⟨b, off, sp⟩ := x
    obtain ⟨h0, hLC, hCm, hZ, hwf, hnone, hcell⟩ := hr k (by omega)
    have hsp : sp = none := by simpa [Addr.add] using World.cell?_spot (hr 0 (by omega)).1
    subst hsp
    rw [Addr.add_lit] at h0
    have hlz : ((Z k).take (L k)).length = L k := by rw [List.length_take]; omega
    refine ⟨b, off, A k, C k, rfl, World.block_lt_of_cell? _ _ h0, by rw [hlz]; exact h0, ⟨by rw [hlz]; unfold maxLen at hCm; omega, fun c hc => ?_⟩⟩
    rw [hlz] at hc
    cases hA : A k with
    | none => have := hnone hA; omega
    | some a' =>
      have h1 := (hcell a' hA).2 c (by omega)
      obtain ⟨b', off', sp'⟩ := a'
      have hsp' : sp' = none := by simpa [Addr.add] using World.cell?_spot ((hcell _ hA).2 0 (by omega))
      subst hsp'
      rw [Addr.add_lit] at h1
      refine ⟨b', off', rfl, World.block_lt_of_cell? _ _ h1, ?_⟩
      rw [h1]
      simp [nth, List.getD_eq_getElem?_getD, List.getElem?_take, hc]

open Go.ChangeShapes Go.WideShapes Go.ChangeAt Go.RowKit in
set_option maxRecDepth 100000 in
theorem lifted (os : Os) (started : os.Started) (H : Type) (enc : TypeId × Value → H) :
    ReturnsInHanded {} Try.checked os 3 .any (Rows.fnExactMeanLevelsSpec.pre6 enc Try.prog Try.f3 Rows.fnExactMeanLevelsRow.domain false) (Rows.fnExactMeanLevelsSpec.post enc Try.prog Try.f3 false true false false) := by
  refine returnsInHanded_of_change (C := Try.checked) own started (by kernel_rfl) Try.func3
    (ChangeSpec.witness6 (enc := enc) (C := Try.checked) false ⟨#[], #[.slice none 0 0], []⟩ 8 (by kernel_rfl) (by kernel_rfl) (by kernel_rfl) (by kernel_rfl)) ?_
  intro W base args ds gs before hval0 hW hcnd _
  have hval : ∀ (j : Nat) t v, Try.f3.params[j]? = some t → args[j]? = some v → Value.okWide Try.prog W .any base t v := hval0
  have hW' := hW
  obtain ⟨p, q, hA0, hV, rfl, hfz, hnd⟩ := hW
  have hA : DataW.TrodAll enc Try.prog W 0 (fun _ => true) true Try.f3.params.toList args.toList ds p := hA0
  rw [Try.params3] at hA hval
  obtain ⟨v0, vs0, d0, ds0, p0, q0, hargs, rfl, rfl, h0, r0⟩ := trodAll_cons hA
  obtain ⟨rfl, rfl, rfl⟩ := trodAll_nil r0
  obtain rfl : args = #[v0] := by cases args; simp_all
  obtain ⟨rfl, rfl⟩ := trodVars_none hV
  have lt0 : ∀ x ∈ p0, x.block < W.heap.size := by obtain ⟨m, hm⟩ := h0; exact DataW.trod_lt m _ _ _ hm
  obtain ⟨a0, len0, cap0, rfl⟩ := okWide_slice Try.underlying22 (hval 0 22 v0 rfl rfl)
  obtain ⟨a0, xss0, cap0, e0, rd0⟩ := (by obtain ⟨fu, hf⟩ := h0; simp only [Value.cells] at hf; exact rdS_of_trod hf : ∃ (a : Option Addr) (xss : List (List Int)) (cap : Nat), Value.slice a0 len0 cap0 = .slice a xss.length cap ∧ RdS W a xss)
  simp only [Value.slice.injEq] at e0
  obtain ⟨rfl, rfl, rfl⟩ := e0
  clear hA0 hval0
  refine (walk a0 xss0 cap0 W rd0).mono fun e W' ⟨he, bel⟩ => ?_
  subst he
  exact ⟨_, rfl, _, _, _, [], _, [], hW', trodAll_mk1 (shut_bool Try.underlying4 _), (trodAll_cons_mk (Below.trod laidOut (by kernel_rfl) (of_decide_eq_true (by kernel_rfl)) h0 bel lt0) trodAll_mk0), rfl, bel.frame _, fun h => by cases h⟩
theorem proved : Rows.FnExactMeanLevelsSaid :=
  OpenClaim.holds_of_wide 3 Try.f3 rfl rfl rfl rfl rfl rfl rfl ⟨rfl, rfl, rfl, rfl, rfl⟩ rfl rfl rfl rfl rfl (by kernel_rfl) Try.func3 (by kernel_rfl)
    (of_decide_eq_true (by kernel_rfl)) (by unfold Func.isWrapper; first | (rw [if_pos (by decide +kernel)]; kernel_rfl) | (rw [if_neg (by decide +kernel)]; exact ⟨rfl, rfl⟩))
    (fun os started H enc _ => lifted os started H enc)

end Go.Proofs.Ytlmkmclmfkphbaa.meanLevels
