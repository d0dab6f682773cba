/- A part of the proof of YtapgjgehpjppaaaAscentOfMatrix: contracts of functions. -/
import Derived.Test.YtapgjgehpjppaaaRows
import Derived.WalkKit
import Derived.WalkSpells
import Derived.WalkLawsBesides
import Derived.Deep.QuietTactic
import Derived.BigQuiet
import Derived.ProofKit
import Derived.OpenShut
import Derived.ShutString
import Derived.ChangeOld
import Derived.Below
import Derived.Lib.SmallJoins
import Derived.Lib.Hide
import Derived.Deep.RegionHeld3
import Derived.Shelf.Small.Bits
import Derived.Shelf.Small.Wraps
import Derived.Shelf.Strconv.Itoa0
import Derived.Shelf.Sort.Plain
import Derived.Shelf.Slices.Reverse
import Derived.Shelf.Slices.Equal
import Derived.Shelf.Slices.CompactI
import Derived.Shelf.Slices.SearchI
import Derived.Shelf.Slices.Delete
import Derived.Shelf.Slices.Cells
import Derived.Shelf.Slices.In.SortNone
import Derived.Shelf.Slices.Empties
import Derived.Shelf.Slices.Empties2
import Derived.Sort.OwnSortedInts
import Derived.Deep.RegionLaw
import Derived.Lib.SliceRun
import Derived.Maps.AppendAt
import Derived.Deep.AppendLies
import Derived.Deep.Matrix
namespace Go.Proofs.Ytapgjgehpjppaaa.ascentOfMatrix
open Go Go.RowKit
set_option linter.unusedVariables false
set_option linter.unusedSimpArgs false
set_option maxHeartbeats 400000
open Go.Shelf


/-- a number of a list; a plain function, which the walk leaves alone -/
def nth (xs : List Int) (k : Nat) : Int := xs.getD k 0
theorem nth_get (xs : List Int) (k : Nat) (h : k < xs.length) : nth xs k = xs[k] := by simp [nth, h]
/-- the slice at an address reads as a list -/
structure Rd (w : World) (a : Option Addr) (xs : List Int) : Prop where
  len : xs.length ≤ 9223372036854775807
  cell : ∀ k, k < xs.length → ∃ b off, a = some ⟨b, off, none⟩ ∧ b < w.heap.size ∧ w.cell? ⟨b, off + k, none⟩ = some (.int .i64 (nth xs k))
theorem Rd.below {w w' : World} {a : Option Addr} {xs : List Int} (h : Rd w a xs) (hb : Below w.heap.size w w') : Rd w' a xs :=
  ⟨h.len, fun k hk => by
    obtain ⟨b, off, e, hl, hc⟩ := h.cell k hk
    exact ⟨b, off, e, Nat.lt_of_lt_of_le hl hb.size, (hb.cell (World.block_lt_of_cell? _ _ hc)).trans hc⟩⟩
theorem Rd.mid {w w1 w2 : World} {a : Option Addr} {xs : List Int} {B : Nat} (h : Rd w a xs) (hb : Below B w1 w2) (hB : w.heap.size ≤ B) (h1 : Rd w1 a xs) : Rd w2 a xs :=
  ⟨h.len, fun k hk => by
    obtain ⟨b, off, e, hl, hc⟩ := h.cell k hk
    obtain ⟨b', off', e', hl', hc'⟩ := h1.cell k hk
    rw [e] at e'
    simp only [Option.some.injEq, Addr.mk.injEq, and_true] at e'
    obtain ⟨rfl, rfl⟩ := e'
    exact ⟨b, off, e, Nat.lt_of_lt_of_le hl' hb.size, (hb.cell (by show b < B; omega)).trans hc'⟩⟩
theorem Rd.alloc {w : World} {a : Option Addr} {xs : List Int} (h : Rd w a xs) (o : Obj) : Rd (w.alloc o) a xs :=
  h.below ((Below.refl _ _).alloc (Nat.le_refl _) o)
theorem Rd.same {w w' : World} {a : Option Addr} {xs : List Int} (h : Rd w a xs) (hs : w.heap.size ≤ w'.heap.size)
    (hb : ∀ b off, a = some ⟨b, off, none⟩ → w'.heap[b]? = w.heap[b]?) : Rd w' a xs :=
  ⟨h.len, fun k hk => by
    obtain ⟨b, off, e, hl, hc⟩ := h.cell k hk
    exact ⟨b, off, e, Nat.lt_of_lt_of_le hl hs, (World.cell?_of_block (w := w) (a := ⟨b, off + k, none⟩) (hb b off e)).trans hc⟩⟩
/-- a slice value that owns the row of these integers, in a block from B on -/
def OwnI (w : World) (B : Nat) (v : Value) (xs : List Int) : Prop := w.ownsRow B 3 1 v xs.length (xs.map (Value.int .i64))
theorem OwnI.form {w : World} {B : Nat} {v : Value} {xs : List Int} (h : OwnI w B v xs) : ∃ a cap, v = .slice a xs.length cap := by
  rcases h.2 with ⟨rfl, h0⟩ | ⟨g, cap, cur, rfl, _⟩
  · exact ⟨none, 0, by rw [h0]⟩
  · exact ⟨_, _, rfl⟩
theorem OwnI.rd {w : World} {B n cap : Nat} {a : Option Addr} {xs : List Int} (h : OwnI w B (.slice a n cap) xs) : Rd w a xs := by
  rcases h.2 with ⟨e, h0⟩ | ⟨g, cap', cur, e, hb, hg, hn, hm, hs, ht⟩
  · exact ⟨by omega, fun k hk => by omega⟩
  · simp only [Value.slice.injEq] at e
    obtain ⟨rfl, rfl, rfl⟩ := e
    refine ⟨by unfold maxLen at hm; omega, fun k hk => ⟨g, 0, rfl, (Array.getElem?_eq_some_iff.1 hg).1, ?_⟩⟩
    have := World.ownsRow.cellAt h k (by omega)
    rw [Nat.zero_add, this]
    simp [nth, hk]
theorem OwnI.blk {w : World} {B n cap : Nat} {a : Option Addr} {xs : List Int} (h : OwnI w B (.slice a n cap) xs) : ∀ b off s, a = some ⟨b, off, s⟩ → B ≤ b ∧ b < w.heap.size := by
  intro b off s e
  subst e
  exact World.ownsRow.lt h b rfl
theorem OwnI.kept {w w' : World} {B : Nat} {v : Value} {xs : List Int} {row : Option Nat} (h : OwnI w B v xs) (hg : w.grownBy w' row) (hne : v.ownBlock = none ∨ v.ownBlock ≠ row) : OwnI w' B v xs := World.ownsRow.kept h hg hne
theorem OwnI.mono {w : World} {B B' : Nat} {v : Value} {xs : List Int} (h : OwnI w B v xs) (hB : B' ≤ B) : OwnI w B' v xs := by
  refine ⟨h.1, ?_⟩
  rcases h.2 with hn | ⟨g, cap, cur, e, hb, rest⟩
  · exact .inl hn
  · exact .inr ⟨g, cap, cur, e, by omega, rest⟩
theorem OwnI.below {w w' : World} {B B' : Nat} {v : Value} {xs : List Int} (h : OwnI w B v xs) (hb : Below B' w w') (hB : w.heap.size ≤ B') : OwnI w' B v xs := by
  refine ⟨h.1, ?_⟩
  rcases h.2 with hn | ⟨g, cap, cur, e, hb', hg, rest⟩
  · exact .inl hn
  · refine .inr ⟨g, cap, cur, e, hb', ?_, rest⟩
    rw [hb.block g (by have := (Array.getElem?_eq_some_iff.1 hg).1; omega)]
    exact hg
theorem ret_bool {a b : Bool} (h : a = b) : Ending.returned (.bool a) = .returned (.bool b) := by rw [h]
theorem ret_int {a b : Int} (h : a = b) : Ending.returned (.int .i64 a) = .returned (.int .i64 b) := by rw [h]
theorem val_int {a b : Int} (h : a = b) : Value.int .i64 a = .int .i64 b := by rw [h]
theorem grown_below {w w' : World} {g : Nat} (h : w.grownBy w' (some g)) (B : Nat) (hB : B ≤ g) (hs : B ≤ w.heap.size) : Below B w w' :=
  ⟨h.os, h.tape, h.output, h.size, fun k hk => h.block k (by omega) (by intro e; simp only [Option.some.injEq] at e; omega)⟩
theorem below_grown {w w' : World} {B : Nat} (h : Below B w w') (hB : w.heap.size ≤ B) (row : Option Nat) : w.grownBy w' row :=
  ⟨h.os, h.tape, h.output, h.size, fun k hk _ => h.block k (by omega)⟩
theorem bcell {W w1 : World} (hb : Below W.heap.size W w1) : (∀ b o, b < W.heap.size → w1.cell? ⟨b, o, none⟩ = W.cell? ⟨b, o, none⟩) ∧ (∀ b o, b < W.heap.size → w1.frozen? ⟨b, o, none⟩ = W.frozen? ⟨b, o, none⟩) :=
  ⟨fun b o h => hb.cell (p := ⟨b, o, none⟩) h, fun b o h => hb.frozen (p := ⟨b, o, none⟩) h⟩
theorem infoInt : (Try.prog.info? 3).map (fun i => (i.zero, i.size, i.bytes)) = some (some (.int .i64 0), 1, 8) := by kernel_rfl
theorem OwnI.setBelow {w : World} {B : Nat} {v : Value} {xs : List Int} (h : OwnI w B v xs) {p : Addr} (hp : p.block < B) (u : Value) : OwnI (w.setCell p u) B v xs := ownsRow_setCell_below h hp u
theorem OwnI.alloc {w : World} {B : Nat} {v : Value} {xs : List Int} (h : OwnI w B v xs) (o : Obj) : OwnI (w.alloc o) B v xs := h.below ((Below.refl _ _).alloc (Nat.le_refl _) o) (Nat.le_refl _)
theorem Below.mono' {B B' : Nat} {w w' : World} (h : Below B w w') (hB : B' ≤ B) : Below B' w w' := h.mono hB
/-- a block that holds two cells -/
def Box2 (w : World) (b : Nat) (u v : Value) : Prop := b < w.heap.size ∧ w.cell? ⟨b, 0, none⟩ = some u ∧ w.cell? ⟨b, 1, none⟩ = some v
theorem Box2.below {w w' : World} {b : Nat} {u v : Value} (h : Box2 w b u v) (hb : Below w.heap.size w w') : Box2 w' b u v :=
  ⟨Nat.lt_of_lt_of_le h.1 hb.size, (hb.cell (p := ⟨b, 0, none⟩) h.1).trans h.2.1, (hb.cell (p := ⟨b, 1, none⟩) h.1).trans h.2.2⟩
theorem Box2.new (w : World) (u v : Value) (t : TypeId) : Box2 (w.alloc (.cells #[u, v] t)) w.heap.size u v :=
  ⟨by simp, by simp, by simp⟩
theorem Box2.kept {w w' : World} {b : Nat} {u v : Value} {row : Option Nat} (h : Box2 w b u v) (hg : w.grownBy w' row) (hne : some b ≠ row) : Box2 w' b u v :=
  ⟨Nat.lt_of_lt_of_le h.1 hg.size, hg.cell h.2.1 hne, hg.cell h.2.2 hne⟩
theorem OwnI.lt {w : World} {B : Nat} {v : Value} {xs : List Int} (h : OwnI w B v xs) : ∀ b, v.ownBlock = some b → B ≤ b ∧ b < w.heap.size := World.ownsRow.lt h
theorem OwnI.cut {w : World} {B : Nat} {v : Value} {xs : List Int} (h : OwnI w B v xs) {U : Nat} (hU : w.heap.size ≤ U) : ∀ b, v.ownBlock = some b → B ≤ b ∧ b < U := fun b e => ⟨(h.lt b e).1, Nat.lt_of_lt_of_le (h.lt b e).2 hU⟩
/-- a block of two cells that may be written -/
def Var2 (w : World) (b : Nat) (u v : Value) : Prop := Box2 w b u v ∧ w.frozen? ⟨b, 0, none⟩ = false ∧ w.frozen? ⟨b, 1, none⟩ = false
theorem Var2.below {w w' : World} {b : Nat} {u v : Value} (h : Var2 w b u v) (hb : Below w.heap.size w w') : Var2 w' b u v :=
  ⟨h.1.below hb, (hb.frozen (p := ⟨b, 0, none⟩) h.1.1).trans h.2.1, (hb.frozen (p := ⟨b, 1, none⟩) h.1.1).trans h.2.2⟩
theorem Var2.new (w : World) (u v : Value) (t : TypeId) : Var2 (w.alloc (.cells #[u, v] t)) w.heap.size u v :=
  ⟨Box2.new w u v t, by simp, by simp⟩
theorem Var2.alloc {w : World} {b : Nat} {u v : Value} (h : Var2 w b u v) (o : Obj) : Var2 (w.alloc o) b u v := h.below ((Below.refl _ _).alloc (Nat.le_refl _) o)
theorem Var2.kept {w w' : World} {b : Nat} {u v : Value} {row : Option Nat} (h : Var2 w b u v) (hg : w.grownBy w' row) (hne : some b ≠ row) : Var2 w' b u v :=
  ⟨h.1.kept hg hne, (World.frozen?_of_block (w := w) (a := ⟨b, 0, none⟩) (hg.block b h.1.1 hne)).trans h.2.1, (World.frozen?_of_block (w := w) (a := ⟨b, 1, none⟩) (hg.block b h.1.1 hne)).trans h.2.2⟩
theorem Var2.set {w : World} {b : Nat} {u v : Value} (h : Var2 w b u v) (u' v' : Value) : Var2 ((w.setCell ⟨b, 0, none⟩ u').setCell ⟨b, 1, none⟩ v') b u' v' := by
  refine ⟨⟨by simpa using h.1.1, ?_, ?_⟩, by simpa using h.2.1, by simpa using h.2.2⟩
  · rw [World.cell?_setCell_other _ _ _ _ (by simp), World.cell?_setCell_same _ _ _ h.1.2.1]
  · rw [World.cell?_setCell_same _ _ _ (u := v) (by rw [World.cell?_setCell_other _ _ _ _ (by simp)]; exact h.1.2.2)]
theorem grown_set (w : World) (p : Addr) (u : Value) : w.grownBy (w.setCell p u) (some p.block) :=
  ⟨rfl, rfl, rfl, by simp, fun k hk hn => Below.heap_setCell w p u k (fun e => hn (by rw [e]))⟩
theorem Var2.set1 {w : World} {b : Nat} {u v : Value} (h : Var2 w b u v) (v' : Value) : Var2 (w.setCell ⟨b, 1, none⟩ v') b u v' := by
  refine ⟨⟨by simpa using h.1.1, ?_, ?_⟩, by simpa using h.2.1, by simpa using h.2.2⟩
  · rw [World.cell?_setCell_other _ _ _ _ (by simp)]; exact h.1.2.1
  · rw [World.cell?_setCell_same _ _ _ h.1.2.2]
theorem Box2.set {w : World} {b : Nat} {u v : Value} (h : Box2 w b u v) {p : Addr} (x : Value) (hne : b ≠ p.block) : Box2 (w.setCell p x) b u v :=
  h.kept (grown_set w p x) (by simpa using hne)
theorem Var2.other {w : World} {b : Nat} {u v : Value} (h : Var2 w b u v) {p : Addr} (x : Value) (hne : b ≠ p.block) : Var2 (w.setCell p x) b u v :=
  h.kept (grown_set w p x) (by simpa using hne)
theorem ne_own {v : Value} {b : Nat} (h : ∀ c, v.ownBlock = some c → c ≠ b) : some b ≠ v.ownBlock := fun e => h b e.symm rfl
theorem grown_alloc_set {w w1 : World} {r : Option Nat} {o : Obj} (h : (w.alloc o).grownBy w1 r) : w.grownBy w1 r :=
  ⟨h.os, h.tape, h.output, by have := h.size; simp at this; omega, fun k hk hn => (h.block k (by simp; omega) hn).trans (Below.heap_alloc w o k hk)⟩
theorem grown_trans {w w1 w2 : World} {r : Option Nat} (h1 : w.grownBy w1 r) (h2 : w1.grownBy w2 r) : w.grownBy w2 r :=
  ⟨h2.os.trans h1.os, h2.tape.trans h1.tape, h2.output.trans h1.output, Nat.le_trans h1.size h2.size, fun k hk hn => (h2.block k (by have := h1.size; omega) hn).trans (h1.block k hk hn)⟩
theorem OwnI.nil (w : World) (B : Nat) : OwnI w B (.slice none 0 0) [] := World.ownsRow_nil _ _ _ _
theorem below_of_grown {w w' : World} {v : Value} {B : Nat} (hg : w.grownBy w' v.ownBlock) (hB : ∀ b, v.ownBlock = some b → B ≤ b) (hs : B ≤ w.heap.size) : Below B w w' :=
  ⟨hg.os, hg.tape, hg.output, hg.size, fun k hk => hg.block k (by omega) (fun e => by have := hB k e.symm; omega)⟩

/-- a row of a list of rows -/
def rowL (xss : List (List Int)) (k : Nat) : List Int := xss.getD k []
/-- how many numbers the first k rows have -/
def totS (xss : List (List Int)) : Nat → Nat
  | 0 => 0
  | k+1 => totS xss k + (rowL xss k).length
theorem totS_mono {xss : List (List Int)} {j : Nat} : ∀ {k : Nat}, j ≤ k → totS xss j ≤ totS xss k
  | 0, h => by obtain rfl : j = 0 := by omega
               exact Nat.le_refl _
  | k+1, h => by
    by_cases e : j = k + 1
    · rw [e]; exact Nat.le_refl _
    · have := totS_mono (xss := xss) (j := j) (k := k) (by omega)
      simp only [totS]; omega
theorem row_tot {xss : List (List Int)} {k n : Nat} (h : k < n) : (rowL xss k).length ≤ totS xss n := by
  have := totS_mono (xss := xss) (j := k + 1) (k := n) (by omega)
  simp only [totS] at this
  omega
/-- the slice of slices at an address reads as a list of rows -/
structure RdS (w : World) (a : Option Addr) (xss : List (List Int)) : Prop where
  len : xss.length ≤ 9223372036854775807
  row : ∀ k, k < xss.length → ∃ b off a' cap', a = some ⟨b, off, none⟩ ∧ b < w.heap.size ∧ w.cell? ⟨b, off + k, none⟩ = some (.slice a' (rowL xss k).length cap') ∧ Rd w a' (rowL xss k)
theorem RdS.below {w w' : World} {a : Option Addr} {xss : List (List Int)} (h : RdS w a xss) (hb : Below w.heap.size w w') : RdS w' a xss :=
  ⟨h.len, fun k hk => by
    obtain ⟨b, off, a', cap', e, hl, hc, hr⟩ := h.row k hk
    exact ⟨b, off, a', cap', e, Nat.lt_of_lt_of_le hl hb.size, (hb.cell (World.block_lt_of_cell? _ _ hc)).trans hc, hr.below hb⟩⟩
theorem ownsRow_bel {w w' : World} {B B' : Nat} {e : TypeId} {size : Nat} {v : Value} {n : Nat} {xs : List Value} (h : w.ownsRow B e size v n xs) (hb : Below B' w w') (hB : w.heap.size ≤ B') : w'.ownsRow B e size v n xs := by
  refine ⟨h.1, ?_⟩
  rcases h.2 with hn | ⟨g, cap, cur, e, hb', hg, rest⟩
  · exact .inl hn
  · refine .inr ⟨g, cap, cur, e, hb', ?_, rest⟩
    rw [hb.block g (by have := (Array.getElem?_eq_some_iff.1 hg).1; omega)]
    exact hg
def valAt (vl : List Value) (k : Nat) : Value := vl.getD k (.slice none 0 0)
/-- a slice of slices that owns its rows: the outer block is g -/
structure OwnS (w : World) (B g : Nat) (vl : List Value) (xss : List (List Int)) : Prop where
  lo : B ≤ g
  hi : g < w.heap.size
  max : xss.length ≤ 9223372036854775807
  cell : ∀ k, k < xss.length → w.cell? ⟨g, k, none⟩ = some (valAt vl k)
  row : ∀ k, k < xss.length → OwnI w (g + 1) (valAt vl k) (rowL xss k)
  apart : ∀ j k, j < k → k < xss.length → ∀ c d, (valAt vl j).ownBlock = some c → (valAt vl k).ownBlock = some d → c < d
theorem OwnS.rd {w : World} {B g : Nat} {vl : List Value} {xss : List (List Int)} (h : OwnS w B g vl xss) : RdS w (some ⟨g, 0, none⟩) xss :=
  ⟨h.max, fun k hk => by
    have h1 := h.row k hk
    have h2 := h.cell k hk
    obtain ⟨a', cap', e⟩ := h1.form
    rw [e] at h1 h2
    exact ⟨g, 0, a', cap', rfl, h.hi, by rw [Nat.zero_add]; exact h2, h1.rd⟩⟩
theorem OwnS.below {w w' : World} {B B' g : Nat} {vl : List Value} {xss : List (List Int)} (h : OwnS w B g vl xss) (hb : Below B' w w') (hB : w.heap.size ≤ B') : OwnS w' B g vl xss :=
  ⟨h.lo, Nat.lt_of_lt_of_le h.hi hb.size, h.max, fun k hk => (hb.cell (p := ⟨g, k, none⟩) (Nat.lt_of_lt_of_le h.hi hB)).trans (h.cell k hk), fun k hk => (h.row k hk).below hb hB, h.apart⟩
theorem OwnS.cut {w : World} {B g : Nat} {vl : List Value} {xss : List (List Int)} (h : OwnS w B g vl xss) {U : Nat} (hU : w.heap.size ≤ U) : B ≤ g ∧ ∀ k, k < xss.length → ∀ c, (valAt vl k).ownBlock = some c → g < c ∧ c < U :=
  ⟨h.lo, fun k hk c e => by have := (h.row k hk).lt c e; omega⟩
/-- only blocks of a stretch are written -/
structure TouchS (lo hi : Nat) (w w' : World) : Prop where
  os : w'.os = w.os
  tape : w'.tape = w.tape
  output : w'.output = w.output
  size : w.heap.size ≤ w'.heap.size
  block : ∀ k, k < w.heap.size → k < lo ∨ hi ≤ k → w'.heap[k]? = w.heap[k]?
theorem TouchS.refl (lo hi : Nat) (w : World) : TouchS lo hi w w := ⟨rfl, rfl, rfl, Nat.le_refl _, fun _ _ _ => rfl⟩
theorem TouchS.step {lo hi : Nat} {w w1 w2 : World} {r : Option Nat} (h : TouchS lo hi w w1) (hg : w1.grownBy w2 r) (hr : ∀ c, r = some c → lo ≤ c ∧ c < hi) : TouchS lo hi w w2 :=
  ⟨hg.os.trans h.os, hg.tape.trans h.tape, hg.output.trans h.output, Nat.le_trans h.size hg.size, fun k hk hn => (hg.block k (by have := h.size; omega) (fun e => by have := hr k e.symm; omega)).trans (h.block k hk hn)⟩
theorem TouchS.below {lo hi B : Nat} {w w' : World} (h : TouchS lo hi w w') (hB : B ≤ lo) (hs : B ≤ w.heap.size) : Below B w w' :=
  ⟨h.os, h.tape, h.output, h.size, fun k hk => h.block k (by omega) (by omega)⟩
theorem TouchS.other {lo hi : Nat} {w w' : World} (h : TouchS lo hi w w') (b : Nat) (hb : b < lo ∨ hi ≤ b) (hs : b < w.heap.size) : ∀ r, w'.heap[b]? = w.heap[b]? ∧ (r = some b → True) := fun _ => ⟨h.block b hs hb, fun _ => trivial⟩
theorem Box2.touch {lo hi : Nat} {w w' : World} {b : Nat} {u v : Value} (h : Box2 w b u v) (ht : TouchS lo hi w w') (hb : b < lo ∨ hi ≤ b) : Box2 w' b u v :=
  ⟨Nat.lt_of_lt_of_le h.1 ht.size, (World.cell?_of_block (w := w) (a := ⟨b, 0, none⟩) (ht.block b h.1 hb)).trans h.2.1, (World.cell?_of_block (w := w) (a := ⟨b, 1, none⟩) (ht.block b h.1 hb)).trans h.2.2⟩
theorem OwnI.touch {lo hi : Nat} {w w' : World} {B : Nat} {v : Value} {xs : List Int} (h : OwnI w B v xs) (ht : TouchS lo hi w w') (hb : ∀ c, v.ownBlock = some c → c < lo ∨ hi ≤ c) : OwnI w' B v xs := by
  refine ⟨h.1, ?_⟩
  rcases h.2 with hn | ⟨g, cap, cur, e, hb', hg, rest⟩
  · exact .inl hn
  · refine .inr ⟨g, cap, cur, e, hb', ?_, rest⟩
    rw [ht.block g (Array.getElem?_eq_some_iff.1 hg).1 (hb g (by rw [e]; rfl))]
    exact hg

def szF (left : Int) (n : Nat) : Int := if left - n < 0 then -1 else left - n
theorem szIntS_any (a : Option Addr) (n cap : Nat) (l : Int) (w : World) (h0 : 0 ≤ l) (h1 : l ≤ 1048576) (hn : n ≤ 9223372036854775807) :
    Calls Try.prog 48 #[.slice a n cap, .int .i64 l] w fun e w' => e = .returned (.int .i64 (szF l n)) ∧ w = w' := by
  by_cases h : l - n < 0
  · go_enter Try.func48, Try.ntmps48
    go_wp2
    go_ret
    exact ⟨ret_int (by simp [szF, h]), rfl⟩
  · go_enter Try.func48, Try.ntmps48
    go_wp2
    go_ret
    exact ⟨ret_int (by rw [szF, if_neg (by omega)]), rfl⟩

theorem szIntSS_any (a : Option Addr) (xss : List (List Int)) (cap : Nat) (l : Int) (w : World) (h0 : 0 ≤ l) (h1 : l ≤ 1048576) (hx : RdS w a xss) :
    Calls Try.prog 40 #[.slice a xss.length cap, .int .i64 l] w fun e w' => (∃ r : Int, e = .returned (.int .i64 r) ∧ ((l < ((xss.length + totS xss xss.length : Nat) : Int) ∧ r = -1) ∨ (((xss.length + totS xss xss.length : Nat) : Int) ≤ l ∧ r = l - ((xss.length + totS xss xss.length : Nat) : Int)))) ∧ w = w' := by
  have hlen := hx.len
  by_cases hl : l - (xss.length : Int) < 0
  · go_enter Try.func40, Try.ntmps40
    go_wp2_with fail
    go_ret
    exact ⟨⟨_, rfl, .inl ⟨by omega, rfl⟩⟩, rfl⟩
  · go_enter Try.func40, Try.ntmps40
    go_wp2_with fail
    go_loop [1, 5] (fun s i => ∃ k : Nat, k ≤ xss.length ∧ i = .int .i64 k ∧ s = .int .i64 (l - (xss.length : Int) - ((totS xss k : Nat) : Int)) ∧ 0 ≤ l - (xss.length : Int) - ((totS xss k : Nat) : Int)) (fun _ i => xss.length - (intOf i).toNat)
    case atStart => exact ⟨0, Nat.zero_le _, rfl, by simp [totS], by simp [totS]; omega⟩
    case round =>
      obtain ⟨k, hk, rfl, rfl, hp⟩ := hrel
      by_cases hlt : k < xss.length
      · obtain ⟨b, off, a', cap', rfl, hbl, hc, hr⟩ := hx.row k hlt
        have HN : Hid (totS xss (k+1) = totS xss k + (rowL xss k).length) := rfl
        have hmn := totS_mono (xss := xss) (j := k + 1) (k := xss.length) (by omega)
        obtain ⟨n, hn⟩ : ∃ n, n = (rowL xss k).length := ⟨_, rfl⟩
        obtain ⟨T, hT⟩ : ∃ T, T = totS xss k := ⟨_, rfl⟩
        have hrl := hr.len
        rw [HN.out] at hmn
        rw [← hn] at hmn hc HN hrl
        rw [← hT] at hmn HN hp ⊢
        have k1 : (k : Int) < (xss.length : Int) := by omega
        clear hr hn hT
        by_cases hz : l - (xss.length : Int) - (T : Int) - (n : Int) < 0
        · have hs : szF (l - (xss.length : Int) - (T : Int)) n = -1 := by simp only [szF]; rw [if_pos hz]
          have HS := Lib.hid hs
          clear hs
          go_wp2_with fail
          refine (szIntS_any _ _ _ _ _ hp (by omega) hrl).mono ?_
          rw [HS.out]
          rintro e w' ⟨rfl, rfl⟩
          go_wp2_with fail
          go_ret
          exact ⟨⟨_, rfl, .inl ⟨by omega, rfl⟩⟩, rfl⟩
        · have hs : szF (l - (xss.length : Int) - (T : Int)) n = l - (xss.length : Int) - (T : Int) - (n : Int) := by simp only [szF]; rw [if_neg hz]
          have HS := Lib.hid hs
          clear hs
          go_wp2_with fail
          refine (szIntS_any _ _ _ _ _ hp (by omega) hrl).mono ?_
          rw [HS.out]
          rintro e w' ⟨rfl, rfl⟩
          go_wp2_with fail
          go_round
          case rel => exact ⟨k + 1, by omega, by go_num, val_int (by rw [HN.out]; omega), by rw [HN.out]; omega⟩
          case measure => simp [intOf]; omega
      · obtain rfl : k = xss.length := by omega
        go_wp2_with fail
        go_ret
        exact ⟨⟨_, rfl, .inr ⟨by omega, by omega⟩⟩, rfl⟩
theorem szIntSS_ok {a : Option Addr} {xss : List (List Int)} {cap : Nat} {w : World} (h : ((xss.length + totS xss xss.length : Nat) : Int) ≤ 1048576) (hx : RdS w a xss) :
    Calls Try.prog 40 #[.slice a xss.length cap, .int .i64 1048576] w fun e w' => e = .returned (.int .i64 (1048576 - ((xss.length + totS xss xss.length : Nat) : Int))) ∧ w = w' :=
  (szIntSS_any a xss cap 1048576 w (by omega) (by omega) hx).mono (fun e w' ⟨⟨r, he, hr⟩, hw⟩ => ⟨by rcases hr with ⟨h2, _⟩ | ⟨_, h2⟩; (· omega); (· rw [he, h2]), hw⟩)
theorem szIntSS_no {a : Option Addr} {xss : List (List Int)} {cap : Nat} {w : World} (h : 1048576 < ((xss.length + totS xss xss.length : Nat) : Int)) (hx : RdS w a xss) :
    Calls Try.prog 40 #[.slice a xss.length cap, .int .i64 1048576] w fun e w' => e = .returned (.int .i64 (-1)) ∧ w = w' :=
  (szIntSS_any a xss cap 1048576 w (by omega) (by omega) hx).mono (fun e w' ⟨⟨r, he, hr⟩, hw⟩ => ⟨by rcases hr with ⟨_, h2⟩ | ⟨h2, _⟩; (· rw [he, h2]); (· omega), hw⟩)

theorem szMx_ok {a : Option Addr} {xss : List (List Int)} {cap : Nat} {w : World} (h : ((xss.length + totS xss xss.length : Nat) : Int) ≤ 1048576) (hx : RdS w a xss) :
    Calls Try.prog 10 #[.agg #[.slice a xss.length cap], .int .i64 1048576] w fun e w' => e = .returned (.int .i64 (1048576 - ((xss.length + totS xss xss.length : Nat) : Int))) ∧ Below w.heap.size w w' := by
  have hlen := hx.len
  go_enter Try.func10, Try.ntmps10
  go_wp2_with fail
  refine (szIntSS_ok h (hx.below (by repeat (first | exact Below.refl _ _ | assumption | refine Below.alloc ?_ (by first | exact Nat.le_refl _ | (simp only [World.size_alloc, World.size_setCell, World.size_drew]; omega) | omega) _ | refine Below.setCell ?_ (by first | exact Nat.le_refl _ | (simp only [World.size_alloc, World.size_setCell, World.size_drew]; omega) | omega) _ | refine Below.drew ?_)))).mono ?_
  rintro e w' ⟨rfl, rfl⟩
  go_wp2_with fail
  go_ret
  exact ⟨rfl, (by repeat (first | exact Below.refl _ _ | assumption | refine Below.alloc ?_ (by first | exact Nat.le_refl _ | (simp only [World.size_alloc, World.size_setCell, World.size_drew]; omega) | omega) _ | refine Below.setCell ?_ (by first | exact Nat.le_refl _ | (simp only [World.size_alloc, World.size_setCell, World.size_drew]; omega) | omega) _ | refine Below.drew ?_))⟩
theorem szMx_no {a : Option Addr} {xss : List (List Int)} {cap : Nat} {w : World} (h : 1048576 < ((xss.length + totS xss xss.length : Nat) : Int)) (hx : RdS w a xss) :
    Calls Try.prog 10 #[.agg #[.slice a xss.length cap], .int .i64 1048576] w fun e w' => e = .returned (.int .i64 (-1)) ∧ Below w.heap.size w w' := by
  have hlen := hx.len
  go_enter Try.func10, Try.ntmps10
  go_wp2_with fail
  refine (szIntSS_no h (hx.below (by repeat (first | exact Below.refl _ _ | assumption | refine Below.alloc ?_ (by first | exact Nat.le_refl _ | (simp only [World.size_alloc, World.size_setCell, World.size_drew]; omega) | omega) _ | refine Below.setCell ?_ (by first | exact Nat.le_refl _ | (simp only [World.size_alloc, World.size_setCell, World.size_drew]; omega) | omega) _ | refine Below.drew ?_)))).mono ?_
  rintro e w' ⟨rfl, rfl⟩
  go_wp2_with fail
  go_ret
  exact ⟨rfl, (by repeat (first | exact Below.refl _ _ | assumption | refine Below.alloc ?_ (by first | exact Nat.le_refl _ | (simp only [World.size_alloc, World.size_setCell, World.size_drew]; omega) | omega) _ | refine Below.setCell ?_ (by first | exact Nat.le_refl _ | (simp only [World.size_alloc, World.size_setCell, World.size_drew]; omega) | omega) _ | refine Below.drew ?_))⟩

theorem set_step (xs : List Int) (k : Nat) (h : k < xs.length) :
    ((xs.take k ++ List.replicate (xs.length - k) (0:Int)).map (Value.int .i64)).set k (.int .i64 (nth xs k)) = (xs.take (k+1) ++ List.replicate (xs.length - (k+1)) (0:Int)).map (Value.int .i64) := by
  apply List.ext_getElem?
  intro j
  have hk : (xs.take k).length = k := by simp; omega
  have hk1 : (xs.take (k+1)).length = k+1 := by simp; omega
  rw [List.getElem?_set]
  by_cases hj : k = j
  · subst hj
    rw [if_pos rfl, if_pos (by simp; omega), List.getElem?_map, List.getElem?_append_left (by omega)]
    simp [nth, h]
  · simp only [hj, if_false, List.getElem?_map, List.getElem?_append, hk, hk1, List.getElem?_take, List.getElem?_replicate]
    by_cases h1 : j < k
    · have h2 : j < k + 1 := by omega
      simp [h1, h2]
    · have h2 : ¬ j < k + 1 := by omega
      have h3 : j - k < xs.length - k ↔ j - (k+1) < xs.length - (k+1) := by omega
      simp [h1, h2, h3]
theorem toIntS_any (a : Option Addr) (xs : List Int) (cap : Nat) (w : World) (hx : Rd w a xs) (hn : xs.length ≤ 1048576) :
    Calls Try.prog 51 #[.slice a xs.length cap] w fun e w' => ∃ a' cap', e = .returned (.slice a' xs.length cap') ∧ OwnI w' w.heap.size (.slice a' xs.length cap') xs ∧ Below w.heap.size w w' := by
  obtain ⟨i0, hi, hz0, hz1, hz2⟩ := info_parts infoInt
  go_enter Try.func51, Try.ntmps51
  go_wp2_with (at_make; refine wpList_make_full _ rfl (.tmp 6) (.tmp 6) 26 rfl w.heap.size 3 i0 (.int .i64 0) 1 Try.underlying26 hi hz0 hz1 .i64 .i64 _ _ xs.length rfl rfl rfl rfl (by rw [hz2]; omega) (by unfold maxLen; omega) (Nat.le_refl _) ?_; intro w1 hown hgrow)
  have hb0 : Below w.heap.size w w1 := (Below.refl _ _).grown hgrow (Nat.le_refl _) (fun k h => by cases h)
  have hown0 : w1.ownsRow w.heap.size 3 1 (.slice (some ⟨w.heap.size, 0, none⟩) xs.length xs.length) xs.length ((xs.take 0 ++ List.replicate (xs.length - 0) (0:Int)).map (Value.int .i64)) := by
    simpa [Value.cells, toList_madeCells_one] using hown
  clear hown hgrow
  have hz : w.heap.size < w1.heap.size := by
    have := (World.ownsRow.lt hown0 w.heap.size rfl).2
    omega
  go_loopw [4] (fun i wr => ∃ k : Nat, k ≤ xs.length ∧ i = .int .i64 k ∧ wr.ownsRow w.heap.size 3 1 (.slice (some ⟨w.heap.size, 0, none⟩) xs.length xs.length) xs.length ((xs.take k ++ List.replicate (xs.length - k) (0:Int)).map (Value.int .i64)) ∧ Below w.heap.size w wr) (fun i _ => xs.length - (intOf i).toNat)
  case atStart => exact ⟨0, Nat.zero_le _, rfl, hown0, hb0⟩
  case round =>
    obtain ⟨k, hk, rfl, hown, hb⟩ := hrel
    by_cases hlt : k < xs.length
    · obtain ⟨b, off, rfl, hbl, hc⟩ := hx.cell k hlt
      have hc1 := (hb.cell (p := ⟨b, off + k, none⟩) hbl).trans hc
      have hst := World.ownsRow.stored hown k (.int .i64 (nth xs k))
      rw [set_step xs k hlt] at hst
      have hcc := World.ownsRow.cellAt hown k (by omega)
      have hfr := World.ownsRow.frozenAt hown k
      have hcc' : ∃ u, wr.cell? ⟨w.heap.size, k, none⟩ = some u := by
        rw [hcc]
        exact ⟨_, List.getElem?_eq_getElem (by simp; omega)⟩
      obtain ⟨u, hu⟩ := hcc'
      have Hst := Lib.hid hst
      clear hst hcc hown hc
      go_wp2
      go_roundw
      case rel => exact ⟨k + 1, by omega, by go_num, Hst.out.1, hb.setCell (Nat.le_refl _) _⟩
      case measure => simp [intOf]; omega
    · obtain rfl : k = xs.length := by omega
      go_wp2
      go_ret
      refine ⟨_, _, rfl, ?_, hb⟩
      have : xs.take xs.length ++ List.replicate (xs.length - xs.length) (0:Int) = xs := by simp
      rw [this] at hown
      exact hown

theorem infoIntS : (Try.prog.info? 26).map (fun i => (i.zero, i.size, i.bytes)) = some (some (.slice none 0 0), 1, 24) := by kernel_rfl
theorem sset_step (vl : List Value) (n k : Nat) (v z : Value) (hk : vl.length = k) (h : k < n) :
    (vl ++ List.replicate (n - k) z).set k v = (vl ++ [v]) ++ List.replicate (n - (k+1)) z := by
  rw [List.set_append_right _ _ (by omega), hk, Nat.sub_self, List.append_assoc]
  congr 1
  rw [show n - k = (n - (k+1)) + 1 by omega, List.replicate_succ, List.set_cons_zero]
  rfl
theorem valAt_app {vl : List Value} {v : Value} {k : Nat} (h : k < vl.length) : valAt (vl ++ [v]) k = valAt vl k := by
  simp [valAt, List.getElem?_append, h]
theorem valAt_last (vl : List Value) (v : Value) : valAt (vl ++ [v]) vl.length = v := by
  simp [valAt]
theorem toIntSS_any (a : Option Addr) (xss : List (List Int)) (cap : Nat) (w : World) (hx : RdS w a xss) (hn : xss.length + totS xss xss.length ≤ 1048576) :
    Calls Try.prog 43 #[.slice a xss.length cap] w fun e w' => ∃ g cap' vl, e = .returned (.slice (some ⟨g, 0, none⟩) xss.length cap') ∧ OwnS w' w.heap.size g vl xss ∧ Below w.heap.size w w' := by
  obtain ⟨i0, hi, hz0, hz1, hz2⟩ := info_parts infoIntS
  have hlen := hx.len
  go_enter Try.func43, Try.ntmps43
  go_wp2_with (at_make; refine wpList_make_full _ rfl (.tmp 6) (.tmp 6) 22 rfl w.heap.size 26 i0 (.slice none 0 0) 1 Try.underlying22 hi hz0 hz1 .i64 .i64 _ _ xss.length rfl rfl rfl rfl (by rw [hz2]; omega) (by unfold maxLen; omega) (Nat.le_refl _) ?_; intro w1 hown hgrow)
  have hb0 : Below w.heap.size w w1 := (Below.refl _ _).grown hgrow (Nat.le_refl _) (fun k h => by cases h)
  have hown0 : w1.ownsRow w.heap.size 26 1 (.slice (some ⟨w.heap.size, 0, none⟩) xss.length xss.length) xss.length ([] ++ List.replicate (xss.length - 0) (.slice none 0 0)) := by
    simpa [Value.cells, toList_madeCells_one] using hown
  clear hown hgrow
  have hz : w.heap.size < w1.heap.size := by
    have := (World.ownsRow.lt hown0 w.heap.size rfl).2
    omega
  go_loopw [4] (fun i wr => ∃ (k : Nat) (vl : List Value), k ≤ xss.length ∧ i = .int .i64 k ∧ vl.length = k ∧ wr.ownsRow w.heap.size 26 1 (.slice (some ⟨w.heap.size, 0, none⟩) xss.length xss.length) xss.length (vl ++ List.replicate (xss.length - k) (.slice none 0 0)) ∧ (∀ j, j < k → OwnI wr (w.heap.size + 1) (valAt vl j) (rowL xss j)) ∧ (∀ j i, j < i → i < k → ∀ c d, (valAt vl j).ownBlock = some c → (valAt vl i).ownBlock = some d → c < d) ∧ Below w.heap.size w wr ∧ w.heap.size < wr.heap.size) (fun i _ => xss.length - (intOf i).toNat)
  case atStart => exact ⟨0, [], Nat.zero_le _, rfl, rfl, hown0, fun j hj => by omega, fun j i _ hi => by omega, hb0, hz⟩
  case round =>
    obtain ⟨k, vl, hk, rfl, hvl, hown, hrow, hap, hb, hzr⟩ := hrel
    have HVL := Lib.hid hvl
    have HROW := Lib.hid hrow
    have HAP := Lib.hid hap
    clear hvl hrow hap
    by_cases hlt : k < xss.length
    · obtain ⟨b, off, a', cap', rfl, hbl, hc1, hr⟩ := (hx.below hb).row k hlt
      have hrt := row_tot (xss := xss) hlt
      have k1 : (k : Int) < (xss.length : Int) := by omega
      have hro : (rowL xss k).length ≤ 1048576 := by omega
      go_wp2_with fail
      refine (toIntS_any _ _ _ _ hr hro).mono ?_
      rintro e w2 ⟨a2, cap2, rfl, ho2, hb2⟩
      have hown2 := ownsRow_bel hown hb2 (Nat.le_refl _)
      have hst := World.ownsRow.stored hown2 k (.slice a2 (rowL xss k).length cap2)
      rw [sset_step vl xss.length k _ _ HVL.out hlt] at hst
      have hcc := World.ownsRow.cellAt hown2 k (by omega)
      have hfr := World.ownsRow.frozenAt hown2 k
      have hcc' : ∃ u, w2.cell? ⟨w.heap.size, k, none⟩ = some u := by
        rw [hcc]
        exact ⟨_, List.getElem?_eq_getElem (by simp [HVL.out]; omega)⟩
      obtain ⟨u, hu⟩ := hcc'
      have Hst := Lib.hid hst
      have bw2 := hb.trans (hb2.mono hb.size)
      have hz2' := hb2.size
      clear hst hcc hown hown2 hc1
      go_wp2_with fail
      go_roundw
      case rel =>
        refine ⟨k + 1, vl ++ [.slice a2 (rowL xss k).length cap2], by omega, by go_num, by simp [HVL.out], Hst.out.1, fun j hj => ?_, fun j i hji hi c d hc hd => ?_, bw2.setCell (Nat.le_refl _) _, by simp; omega⟩
        · by_cases e : j = k
          · subst e
            have hva := valAt_last vl (.slice a2 (rowL xss j).length cap2)
            rw [HVL.out] at hva
            rw [hva]
            exact (ho2.mono (B' := w.heap.size + 1) (by omega)).setBelow (show w.heap.size < w.heap.size + 1 by omega) _
          · rw [valAt_app (by rw [HVL.out]; omega)]
            exact ((HROW.out j (by omega)).below hb2 (Nat.le_refl _)).setBelow (show w.heap.size < w.heap.size + 1 by omega) _
        · rw [valAt_app (by rw [HVL.out]; omega)] at hc
          by_cases e : i = k
          · subst e
            have hva := valAt_last vl (.slice a2 (rowL xss i).length cap2)
            rw [HVL.out] at hva
            rw [hva] at hd
            have h1 := (HROW.out j (by omega)).lt c hc
            have h2 := ho2.lt d hd
            omega
          · rw [valAt_app (by rw [HVL.out]; omega)] at hd
            exact HAP.out j i hji (by omega) c d hc hd
      case measure => simp [intOf]; omega
    · obtain rfl : k = xss.length := by omega
      go_wp2_with fail
      go_ret
      refine ⟨w.heap.size, xss.length, vl, rfl, ⟨Nat.le_refl _, hzr, hlen, fun j hj => ?_, HROW.out, HAP.out⟩, hb⟩
      rw [World.ownsRow.cellAt hown j (by omega)]
      simp [valAt, List.getElem?_append, HVL.out, hj]

theorem nth_snoc_lt {ys : List Int} {x : Int} {j : Nat} (h : j < ys.length) : nth (ys ++ [x]) j = nth ys j := by
  simp [nth, List.getD_eq_getElem?_getD, List.getElem?_append_left h]
theorem nth_snoc_at (ys : List Int) (x : Int) : nth (ys ++ [x]) ys.length = x := by
  simp [nth, List.getD_eq_getElem?_getD]
/-- the sum of the first k values -/
def sumTo (f : Nat → Nat) : Nat → Nat
  | 0 => 0
  | k+1 => sumTo f k + f k
theorem sumTo_congr {f g : Nat → Nat} : ∀ {k : Nat}, (∀ j, j < k → f j = g j) → sumTo f k = sumTo g k
  | 0, _ => rfl
  | k+1, h => by rw [sumTo, sumTo, sumTo_congr (fun j hj => h j (by omega)), h k (by omega)]
theorem sumTo_le {f : Nat → Nat} {c : Nat} : ∀ {k : Nat}, (∀ j, j < k → f j ≤ c) → sumTo f k ≤ k * c
  | 0, _ => by simp [sumTo]
  | k+1, h => by
    have h1 := sumTo_le (f := f) (c := c) (k := k) (fun j hj => h j (by omega))
    have h2 := h k (by omega)
    rw [sumTo, Nat.succ_mul]; omega
theorem sumTo_mono {f : Nat → Nat} {j : Nat} : ∀ {k : Nat}, j ≤ k → sumTo f j ≤ sumTo f k
  | 0, h => by obtain rfl : j = 0 := by omega
               exact Nat.le_refl _
  | k+1, h => by
    by_cases e : j = k + 1
    · rw [e]; exact Nat.le_refl _
    · have := sumTo_mono (f := f) (j := j) (k := k) (by omega)
      rw [sumTo]; omega
/-- the first k of so many lists of rows, one after the other -/
def catTo (f : Nat → List (List Int)) : Nat → List (List Int)
  | 0 => []
  | k+1 => catTo f k ++ f k
theorem catTo_len (f : Nat → List (List Int)) : ∀ k, (catTo f k).length = sumTo (fun x => (f x).length) k
  | 0 => rfl
  | k+1 => by rw [catTo, sumTo, List.length_append, catTo_len f k]
theorem mem_catTo {f : Nat → List (List Int)} {r : List Int} : ∀ {k : Nat}, r ∈ catTo f k → ∃ j, j < k ∧ r ∈ f j
  | 0, h => by simp [catTo] at h
  | k+1, h => by
    rcases List.mem_append.1 h with h | h
    · obtain ⟨j, h1, h2⟩ := mem_catTo h
      exact ⟨j, by omega, h2⟩
    · exact ⟨k, by omega, h⟩

/-- a list of rows that has been made: the outer row is at v, and each row is one of its own -/
structure RowsO (w : World) (B : Nat) (v : Value) (vl : List Value) (xss : List (List Int)) : Prop where
  own : w.ownsRow B 26 1 v xss.length vl
  row : ∀ k, k < xss.length → OwnI w B (valAt vl k) (rowL xss k)
  apart : ∀ k, k < xss.length → ∀ c, (valAt vl k).ownBlock = some c → v.ownBlock ≠ some c
theorem RowsO.vlen {w : World} {B : Nat} {v : Value} {vl : List Value} {xss : List (List Int)} (h : RowsO w B v vl xss) : vl.length = xss.length := by
  have := h.own.1
  omega
theorem RowsO.form {w : World} {B : Nat} {v : Value} {vl : List Value} {xss : List (List Int)} (h : RowsO w B v vl xss) : ∃ a cap, v = .slice a xss.length cap := by
  rcases h.own.2 with ⟨rfl, h0⟩ | ⟨g, cap, cur, rfl, _⟩
  · exact ⟨none, 0, by rw [h0]⟩
  · exact ⟨_, _, rfl⟩
theorem RowsO.below {w w' : World} {B B' : Nat} {v : Value} {vl : List Value} {xss : List (List Int)} (h : RowsO w B v vl xss) (hb : Below B' w w') (hB : w.heap.size ≤ B') : RowsO w' B v vl xss :=
  ⟨ownsRow_bel h.own hb hB, fun k hk => (h.row k hk).below hb hB, h.apart⟩
theorem RowsO.mono {w : World} {B B' : Nat} {v : Value} {vl : List Value} {xss : List (List Int)} (h : RowsO w B v vl xss) (hB : B' ≤ B) : RowsO w B' v vl xss := by
  refine ⟨⟨h.own.1, ?_⟩, fun k hk => (h.row k hk).mono hB, h.apart⟩
  rcases h.own.2 with hn | ⟨g, cap, cur, e, hb, rest⟩
  · exact .inl hn
  · exact .inr ⟨g, cap, cur, e, by omega, rest⟩
theorem RowsO.nil (w : World) (B : Nat) : RowsO w B (.slice none 0 0) [] [] :=
  ⟨World.ownsRow_nil _ _ _ _, fun k hk => by simp at hk, fun k hk => by simp at hk⟩
theorem RowsO.lt {w : World} {B : Nat} {v : Value} {vl : List Value} {xss : List (List Int)} (h : RowsO w B v vl xss) : ∀ b, v.ownBlock = some b → B ≤ b ∧ b < w.heap.size := World.ownsRow.lt h.own
theorem valAt_get {vl : List Value} {k : Nat} (h : k < vl.length) : vl[k]? = some (valAt vl k) := by
  rw [valAt, List.getD_eq_getElem?_getD, List.getElem?_eq_getElem h]; rfl
theorem RowsO.rd {w : World} {B n cap : Nat} {a : Option Addr} {vl : List Value} {xss : List (List Int)} (h : RowsO w B (.slice a n cap) vl xss) : RdS w a xss := by
  have hvl := h.vlen
  rcases h.own.2 with ⟨e, h0⟩ | ⟨g, cap', cur, e, hb, hg, hn, hm, hs, ht⟩
  · exact ⟨by omega, fun k hk => by omega⟩
  · simp only [Value.slice.injEq] at e
    obtain ⟨rfl, rfl, rfl⟩ := e
    refine ⟨by unfold maxLen at hm; omega, fun k hk => ?_⟩
    have h1 := World.ownsRow.cellAt h.own k (by omega)
    have h2 := h.row k hk
    obtain ⟨a', c', e'⟩ := h2.form
    rw [e'] at h2
    refine ⟨g, 0, a', c', rfl, (Array.getElem?_eq_some_iff.1 hg).1, ?_, h2.rd⟩
    rw [Nat.zero_add, h1, valAt_get (by omega), e']
/-- one list of rows after the other: only the outer row of the first one has been written -/
theorem RowsO.cat {w w' : World} {B C : Nat} {v v2 v' : Value} {vl vl2 : List Value} {xss yss : List (List Int)} (h : RowsO w B v vl xss) (h2 : RowsO w C v2 vl2 yss) (hBC : B ≤ C) (hvC : ∀ c, v.ownBlock = some c → c < C)
    (ho : w'.ownsRow B 26 1 v' (xss.length + yss.length) (vl ++ vl2)) (hg : w.grownBy w' v.ownBlock) (hv' : v'.ownBlock = v.ownBlock ∨ v'.ownBlock = some w.heap.size) : RowsO w' B v' (vl ++ vl2) (xss ++ yss) := by
  have hl := h.vlen
  have hl2 := h2.vlen
  have e1 : ∀ k, k < xss.length → valAt (vl ++ vl2) k = valAt vl k ∧ rowL (xss ++ yss) k = rowL xss k := by
    intro k hk
    exact ⟨by rw [valAt, valAt, List.getD_eq_getElem?_getD, List.getD_eq_getElem?_getD, List.getElem?_append_left (by omega)], by rw [rowL, rowL, List.getD_eq_getElem?_getD, List.getD_eq_getElem?_getD, List.getElem?_append_left (by omega)]⟩
  have e2 : ∀ k, xss.length ≤ k → valAt (vl ++ vl2) k = valAt vl2 (k - xss.length) ∧ rowL (xss ++ yss) k = rowL yss (k - xss.length) := by
    intro k hk
    exact ⟨by rw [valAt, valAt, List.getD_eq_getElem?_getD, List.getD_eq_getElem?_getD, List.getElem?_append_right (by omega), hl], by rw [rowL, rowL, List.getD_eq_getElem?_getD, List.getD_eq_getElem?_getD, List.getElem?_append_right (by omega)]⟩
  have hne : ∀ k, k < (xss ++ yss).length → OwnI w B (valAt (vl ++ vl2) k) (rowL (xss ++ yss) k) ∧ ∀ c, (valAt (vl ++ vl2) k).ownBlock = some c → v.ownBlock ≠ some c ∧ c < w.heap.size := by
    intro k hk
    rw [List.length_append] at hk
    by_cases e : k < xss.length
    · rw [(e1 k e).1, (e1 k e).2]
      exact ⟨h.row k e, fun c hc => ⟨h.apart k e c hc, ((h.row k e).lt c hc).2⟩⟩
    · rw [(e2 k (by omega)).1, (e2 k (by omega)).2]
      have h3 := h2.row (k - xss.length) (by omega)
      refine ⟨h3.mono hBC, fun c hc => ⟨fun hh => ?_, (h3.lt c hc).2⟩⟩
      have := hvC c hh
      have := (h3.lt c hc).1
      omega
  refine ⟨by rw [List.length_append]; exact ho, fun k hk => ?_, fun k hk c hc => ?_⟩
  · have ⟨h3, h4⟩ := hne k hk
    refine h3.kept hg ?_
    cases hc : (valAt (vl ++ vl2) k).ownBlock with
    | none => exact .inl rfl
    | some c => exact .inr (fun hh => (h4 c hc).1 hh.symm)
  · have ⟨_, h4⟩ := hne k hk
    have ⟨h5, h6⟩ := h4 c hc
    rcases hv' with hv' | hv'
    · rw [hv']; exact h5
    · rw [hv']; intro hh; simp only [Option.some.injEq] at hh; omega
theorem infoSlice : (Try.prog.info? 26).map (fun i => (i.zero, i.size, i.bytes)) = some (some (.slice none 0 0), 1, 24) := by kernel_rfl

def inB (n lo hi : Int) : Bool := decide (lo ≤ n) && decide (n ≤ hi)
theorem inB_iff {n lo hi : Int} : inB n lo hi = true ↔ lo ≤ n ∧ n ≤ hi := by simp [inB]
theorem inB_no {n lo hi : Int} : inB n lo hi = false ↔ n < lo ∨ hi < n := by
  rw [← Bool.not_eq_true, inB_iff]
  omega

def allB (xs : List Int) (lo hi : Int) : Bool := xs.all (fun x => inB x lo hi)
theorem allB_take (xs : List Int) (lo hi : Int) (k : Nat) (h : k < xs.length) : allB (xs.take (k+1)) lo hi = (allB (xs.take k) lo hi && inB (nth xs k) lo hi) := by
  simp only [allB]
  rw [List.take_succ_eq_append_getElem h, List.all_append]
  simp [nth, h]
theorem allB_false {xs : List Int} {lo hi : Int} {k : Nat} (h : k < xs.length) (h1 : inB (nth xs k) lo hi = false) : allB xs lo hi = false := by
  simp only [allB, List.all_eq_false]
  exact ⟨xs[k], List.getElem_mem h, by simpa [nth, h] using h1⟩
theorem allB_nth {xs : List Int} {lo hi : Int} (h : allB xs lo hi = true) {k : Nat} (hk : k < xs.length) : lo ≤ nth xs k ∧ nth xs k ≤ hi := by
  simp only [allB, List.all_eq_true] at h
  have := inB_iff.1 (h _ (List.getElem_mem hk))
  rwa [← nth_get xs k hk] at this

/-- is it a relation? -/
def relB (n : Int) (xs : List Int) : Bool := inB n 0 10 && decide ((xs.length : Int) = n) && allB xs 0 (2 ^ n.toNat - 1)
theorem relB_iff {n : Int} {xs : List Int} : relB n xs = true ↔ (0 ≤ n ∧ n ≤ 10) ∧ (xs.length : Int) = n ∧ allB xs 0 (2 ^ n.toNat - 1) = true := by
  simp [relB, inB_iff, and_assoc]
theorem pow10 {n : Nat} (h : n ≤ 10) : (1 : Int) ≤ 2 ^ n ∧ (2 : Int) ^ n ≤ 1024 := by
  have h1 : 2 ^ n ≤ 2 ^ 10 := Nat.pow_le_pow_right (by omega) h
  have h2 : 1 ≤ 2 ^ n := Nat.one_le_two_pow
  have h3 : ((2 ^ n : Nat) : Int) = (2 : Int) ^ n := by simp
  omega
theorem full_eq {n : Int} (h0 : 0 ≤ n) (h1 : n ≤ 10) : wrap64 (wrap64 (2 ^ n.toNat) - 1) = 2 ^ n.toNat - 1 := by
  have h2 := pow10 (n := n.toNat) (by omega)
  generalize (2 : Int) ^ n.toNat = p at *
  rw [IntWalk.wrap64_in p ⟨by omega, by omega⟩, IntWalk.wrap64_in _ ⟨by omega, by omega⟩]
structure RelP (n : Int) (xs : List Int) : Prop where
  n0 : 0 ≤ n
  n1 : n ≤ 10
  len : (xs.length : Int) = n
  pos : ∀ k, k < xs.length → 0 ≤ nth xs k
  lt : ∀ k, k < xs.length → nth xs k < 2 ^ xs.length
  small : ∀ k, k < xs.length → nth xs k < 1024
theorem relB_p {n : Int} {xs : List Int} (h : relB n xs = true) : RelP n xs := by
  obtain ⟨⟨h0, h1⟩, h2, h3⟩ := relB_iff.1 h
  have e : n.toNat = xs.length := by omega
  rw [e] at h3
  have hp := pow10 (n := xs.length) (by omega)
  exact ⟨h0, h1, h2, fun k hk => (allB_nth h3 hk).1, fun k hk => by have := (allB_nth h3 hk).2; omega, fun k hk => by have := (allB_nth h3 hk).2; omega⟩

def elemB (i n : Int) : Bool := decide (0 ≤ i) && decide (i < n)
theorem elemB_iff {i n : Int} : elemB i n = true ↔ 0 ≤ i ∧ i < n := by simp [elemB]
theorem elemB_no {i n : Int} : elemB i n = false ↔ i < 0 ∨ n ≤ i := by
  rw [← Bool.not_eq_true, elemB_iff]; omega

theorem wrap64_small (n : Int) (h0 : -9223372036854775808 ≤ n) (h1 : n ≤ 9223372036854775807) : IntKind.i64.wrap n = n := by
  simp only [IntKind.wrap, IntKind.bits, IntKind.signed]
  simp
  omega
theorem i64_wrap (n : Int) : IntKind.i64.wrap n = wrap64 n := IntWalk.i64_left n
theorem ofInt_i64 (a : Nat) (ha : a < 9223372036854775808) : (BitVec.ofInt 64 (a : Int)).toNat = a := by
  simp
  omega
theorem and_nat (a b : Nat) (ha : a < 9223372036854775808) (hb : b < 9223372036854775808) : bits .and .i64 (a : Int) (b : Int) = ((a &&& b : Nat) : Int) := by
  have hx : a &&& b < 2 ^ 63 := Nat.and_lt_two_pow _ (by omega)
  show IntKind.i64.wrap ((BitVec.ofInt 64 (a : Int) &&& BitVec.ofInt 64 (b : Int)).toNat : Int) = _
  rw [BitVec.toNat_and, ofInt_i64 a ha, ofInt_i64 b hb, wrap64_small _ (by omega) (by omega)]
theorem or_nat (a b : Nat) (ha : a < 9223372036854775808) (hb : b < 9223372036854775808) : bits .or .i64 (a : Int) (b : Int) = ((a ||| b : Nat) : Int) := by
  have hx : a ||| b < 2 ^ 63 := Nat.or_lt_two_pow (by omega) (by omega)
  show IntKind.i64.wrap ((BitVec.ofInt 64 (a : Int) ||| BitVec.ofInt 64 (b : Int)).toNat : Int) = _
  rw [BitVec.toNat_or, ofInt_i64 a ha, ofInt_i64 b hb, wrap64_small _ (by omega) (by omega)]
/-- a set without the elements of another one -/
def sub (a b : Nat) : Nat := a ^^^ (a &&& b)
theorem testBit_sub (a b i : Nat) : (sub a b).testBit i = (a.testBit i && !b.testBit i) := by
  simp [sub, Nat.testBit_xor, Nat.testBit_and]
  cases a.testBit i <;> cases b.testBit i <;> rfl
theorem sub_lt {a b n : Nat} (h : a < 2 ^ n) : sub a b < 2 ^ n := by
  unfold sub
  exact Nat.xor_lt_two_pow h (by rw [Nat.and_comm]; exact Nat.and_lt_two_pow _ h)
theorem sub_nat (a b : Nat) (ha : a < 9223372036854775808) (hb : b < 9223372036854775808) : bits .andNot .i64 (a : Int) (b : Int) = ((sub a b : Nat) : Int) := by
  have hs : sub a b < 2 ^ 63 := sub_lt (by omega)
  show IntKind.i64.wrap ((BitVec.ofInt 64 (a : Int) &&& ~~~BitVec.ofInt 64 (b : Int)).toNat : Int) = _
  have e : (BitVec.ofInt 64 (a : Int) &&& ~~~BitVec.ofInt 64 (b : Int)).toNat = sub a b := by
    apply Nat.eq_of_testBit_eq
    intro i
    rw [BitVec.testBit_toNat, BitVec.getLsbD_and, BitVec.getLsbD_not, testBit_sub, ← BitVec.testBit_toNat, ← BitVec.testBit_toNat, ofInt_i64 a ha, ofInt_i64 b hb]
    by_cases hi : i < 64
    · simp [hi]
    · have : a.testBit i = false := Nat.testBit_lt_two_pow (Nat.lt_of_lt_of_le (by omega : a < 2 ^ 64) (Nat.pow_le_pow_right (by omega) (by omega)))
      simp [this]
  rw [e, wrap64_small _ (by omega) (by omega)]
theorem shr_nat (s i : Nat) (hs : s < 9223372036854775808) : (s : Int) / (2 ^ min i 64) = ((s >>> i : Nat) : Int) := by
  rw [Nat.shiftRight_eq_div_pow]
  by_cases h : i ≤ 64
  · rw [Nat.min_eq_left h]
    simp
  · rw [Nat.min_eq_right (by omega)]
    have : 2 ^ 64 ≤ 2 ^ i := Nat.pow_le_pow_right (by omega) (by omega)
    rw [Nat.div_eq_of_lt (by omega)]
    omega
theorem bit_and (s i : Nat) (hs : s < 9223372036854775808) : (bits .and .i64 ((s >>> i : Nat) : Int) 1 == 1) = s.testBit i := by
  have h1 : s >>> i ≤ s := by rw [Nat.shiftRight_eq_div_pow]; exact Nat.div_le_self _ _
  have := and_nat (s >>> i) 1 (by omega) (by omega)
  rw [show ((1 : Nat) : Int) = 1 from rfl] at this
  rw [this, Nat.testBit, Nat.and_one_is_mod, Nat.and_comm, Nat.and_one_is_mod]
  rcases Nat.mod_two_eq_zero_or_one (s >>> i) with h | h <;> simp [h]
theorem bit_mod (s i : Nat) : (((s >>> i : Nat) : Int) % 2 == 1) = s.testBit i := by
  rw [Nat.testBit, Nat.and_comm, Nat.and_one_is_mod]
  rcases Nat.mod_two_eq_zero_or_one (s >>> i) with h | h
  · have h2 : ((s >>> i : Nat) : Int) % 2 = 0 := by omega
    rw [h2, h]; rfl
  · have h2 : ((s >>> i : Nat) : Int) % 2 = 1 := by omega
    rw [h2, h]; rfl
theorem bit_tmod (s i : Nat) : (((s >>> i : Nat) : Int).tmod 2 == 1) = s.testBit i := by
  rw [Int.tmod_eq_emod_of_nonneg (Int.natCast_nonneg _), bit_mod]
/-- is i in the set s? -/
def hasB (s i : Int) : Bool := s.toNat.testBit i.toNat
theorem has_and {s i : Int} (h0 : 0 ≤ s) (h1 : s ≤ 9223372036854775807) (hi : 0 ≤ i) : (bits .and .i64 (s / 2 ^ min i.toNat 64) 1 == 1) = hasB s i := by
  obtain ⟨S, rfl⟩ := Int.eq_ofNat_of_zero_le h0
  rw [shr_nat S _ (by omega), bit_and S _ (by omega)]
  rfl
theorem has_mod {s i : Int} (h0 : 0 ≤ s) (h1 : s ≤ 9223372036854775807) (hi : 0 ≤ i) : ((s / 2 ^ min i.toNat 64).tmod 2 == 1) = hasB s i := by
  obtain ⟨S, rfl⟩ := Int.eq_ofNat_of_zero_le h0
  rw [shr_nat S _ (by omega), bit_tmod S]
  rfl
theorem pow_w {k : Nat} (h : k < 62) : wrap64 (2 ^ k) = ((2 ^ k : Nat) : Int) := by
  have : 2 ^ k ≤ 2 ^ 61 := Nat.pow_le_pow_right (by omega) (by omega)
  rw [show ((2:Int) ^ k) = ((2 ^ k : Nat) : Int) by simp]
  generalize hp : 2 ^ k = p at *
  exact IntWalk.wrap64_in _ ⟨by omega, by omega⟩
theorem or_bit {b k : Nat} (hb : b < 4611686018427387904) (hk : k < 62) : bits .or .i64 (b : Int) (wrap64 (2 ^ k)) = ((b ||| 2 ^ k : Nat) : Int) := by
  rw [pow_w hk]
  have : 2 ^ k ≤ 2 ^ 61 := Nat.pow_le_pow_right (by omega) (by omega)
  exact or_nat _ _ (by omega) (by omega)
theorem or_i {a b : Int} (ha : 0 ≤ a) (ha1 : a < 9223372036854775808) (hb : 0 ≤ b) (hb1 : b < 9223372036854775808) : bits .or .i64 a b = ((a.toNat ||| b.toNat : Nat) : Int) := by
  obtain ⟨A, rfl⟩ := Int.eq_ofNat_of_zero_le ha
  obtain ⟨B, rfl⟩ := Int.eq_ofNat_of_zero_le hb
  exact or_nat A B (by omega) (by omega)
theorem sub_i {a b : Int} (ha : 0 ≤ a) (ha1 : a < 9223372036854775808) (hb : 0 ≤ b) (hb1 : b < 9223372036854775808) : bits .andNot .i64 a b = ((sub a.toNat b.toNat : Nat) : Int) := by
  obtain ⟨A, rfl⟩ := Int.eq_ofNat_of_zero_le ha
  obtain ⟨B, rfl⟩ := Int.eq_ofNat_of_zero_le hb
  exact sub_nat A B (by omega) (by omega)
theorem or_lt {a b n : Nat} (ha : a < 2 ^ n) (hb : b < 2 ^ n) : a ||| b < 2 ^ n := Nat.or_lt_two_pow ha hb
theorem two_lt {k n : Nat} (h : k < n) : 2 ^ k < 2 ^ n := Nat.pow_lt_pow_right (by omega) h
theorem testBit_two (k i : Nat) : (2 ^ k).testBit i = decide (k = i) := Nat.testBit_two_pow

theorem ret_bb {a b c d : Bool} (h : a = b) (h2 : c = d) : Ending.returned (.tuple #[.bool a, .bool c]) = .returned (.tuple #[.bool b, .bool d]) := by rw [h, h2]
theorem ret_ib {a b : Int} {c d : Bool} (h : a = b) (h2 : c = d) : Ending.returned (.tuple #[.int .i64 a, .bool c]) = .returned (.tuple #[.int .i64 b, .bool d]) := by rw [h, h2]

def okE (n : Int) (xs : List Int) (i : Int) : Bool := relB n xs && elemB i n
def okB (n : Int) (xs : List Int) (i j : Int) : Bool := relB n xs && elemB i n && elemB j n
def betF (n : Int) (xs : List Int) (i j : Int) : Bool := okB n xs i j && hasB (nth xs i.toNat) j

/-- the last number, or 0 -/
def lastN (ys : List Int) : Nat := (nth ys (ys.length - 1)).toNat
/-- the stairs that go on a stair by d numbers -/
def stS : Nat → List Int → List (List Int)
  | 0, ys => [ys]
  | d+1, ys => catTo (fun j => stS d (ys ++ [((lastN ys + j : Nat) : Int)])) (ys.length + 1 - lastN ys)
theorem stS_len : ∀ (d : Nat) (ys : List Int), ys.length + d ≤ 6 → (stS d ys).length ≤ 7 ^ d
  | 0, ys, _ => by simp [stS]
  | d+1, ys, h => by
    rw [stS, catTo_len]
    have h1 := sumTo_le (f := fun j => (stS d (ys ++ [((lastN ys + j : Nat) : Int)])).length) (c := 7 ^ d) (k := ys.length + 1 - lastN ys) (fun j _ => stS_len d _ (by simp; omega))
    have h2 := Nat.mul_le_mul (show ys.length + 1 - lastN ys ≤ 7 by omega) (Nat.le_refl (7 ^ d))
    rw [Nat.pow_succ]; omega
theorem seven_le {d : Nat} (h : d ≤ 6) : 7 ^ d ≤ 117649 := Nat.le_trans (Nat.pow_le_pow_right (by omega) h) (by decide)
/-- the stairs that are a stair and one number more -/
def extS (ys : List Int) : List (List Int) := catTo (fun j => [ys ++ [((lastN ys + j : Nat) : Int)]]) (ys.length + 1 - lastN ys)
theorem catTo_flat {f : Nat → List (List Int)} {g : List Int → List (List Int)} : ∀ k, (catTo f k).flatMap g = catTo (fun j => (f j).flatMap g) k
  | 0 => rfl
  | k+1 => by rw [catTo, catTo, List.flatMap_append, catTo_flat k]
theorem stS_succ : ∀ (d : Nat) (ys : List Int), stS (d+1) ys = (stS d ys).flatMap extS
  | 0, ys => by simp [stS, extS]
  | d+1, ys => by
    rw [stS, stS, catTo_flat]
    congr 1
    funext j
    exact stS_succ d _
def stV (i : Nat) (r : List Int) : Bool := r.length == i && (List.range i).all fun j => decide (0 ≤ nth r j) && decide (nth r j ≤ (j : Int))
theorem stS_ok : ∀ n : Fin 7, (stS n.val []).all (stV n.val) = true := by decide +kernel
theorem stS_tot : ∀ n : Fin 7, (stS n.val []).length + totS (stS n.val []) (stS n.val []).length ≤ 1048576 := by decide +kernel
theorem stS_cut : ∀ n : Fin 7, ∀ k : Fin 133, (((stS n.val []).take k.val).flatMap extS).length ≤ 1048576 := by decide +kernel
theorem stS_small : ∀ n : Fin 7, (stS n.val []).length ≤ 132 := by decide +kernel
def ssB (n : Int) : Bool := inB n 0 6
def ssL (n : Int) : List (List Int) := if ssB n then stS n.toNat [] else []
theorem ssL_len (n : Int) : (ssL n).length + totS (ssL n) (ssL n).length ≤ 1048576 := by
  unfold ssL
  split
  · rename_i h
    have := inB_iff.1 h
    exact stS_tot ⟨n.toNat, by omega⟩
  · simp [totS]

/-- the marks k, k + 1, .. -/
def marks (k : Int) (n : Nat) : List Int := (List.range n).map (fun (j : Nat) => k + (j : Int))
theorem marks_len (k : Int) (n : Nat) : (marks k n).length = n := by simp [marks]
theorem marks_nth {k : Int} {n j : Nat} (h : j < n) : nth (marks k n) j = k + j := by
  simp [nth, marks, h]
theorem mark_step (k : Int) (xs : List Int) (j : Nat) (h : j < xs.length) :
    ((marks k j ++ xs.drop j).map (Value.int .i64)).set j (.int .i64 (k + j)) = (marks k (j+1) ++ xs.drop (j+1)).map (Value.int .i64) := by
  apply List.ext_getElem?
  intro i
  rw [List.getElem?_set]
  by_cases hj : j = i
  · subst hj
    rw [if_pos rfl, if_pos (by simp [marks_len]; omega), List.getElem?_map, List.getElem?_append_left (by rw [marks_len]; omega)]
    simp [marks]
  · simp only [hj, if_false, List.getElem?_map, List.getElem?_append, marks_len, List.getElem?_drop]
    by_cases h1 : i < j
    · have h2 : i < j + 1 := by omega
      simp [h1, h2, marks]
    · have h2 : ¬ i < j + 1 := by omega
      have h3 : j + (i - j) = j + 1 + (i - (j + 1)) := by omega
      simp [h1, h2, h3]
theorem own_ne {v u : Value} (h : ∀ c, v.ownBlock = some c → u.ownBlock ≠ some c) : v.ownBlock = none ∨ v.ownBlock ≠ u.ownBlock := by
  cases hv : v.ownBlock with
  | none => exact .inl rfl
  | some c => exact .inr (fun e => h c hv e.symm)

/-- rows that have been made, each in a block of its own -/
structure RowsP (w : World) (B : Nat) (v : Value) (vl : List Value) (xss : List (List Int)) : Prop where
  o : RowsO w B v vl xss
  pair : ∀ j k, j < k → k < xss.length → ∀ c, (valAt vl j).ownBlock = some c → (valAt vl k).ownBlock ≠ some c
theorem RowsP.below {w w' : World} {B B' : Nat} {v : Value} {vl : List Value} {xss : List (List Int)} (h : RowsP w B v vl xss) (hb : Below B' w w') (hB : w.heap.size ≤ B') : RowsP w' B v vl xss := ⟨h.o.below hb hB, h.pair⟩
theorem RowsP.mono {w : World} {B B' : Nat} {v : Value} {vl : List Value} {xss : List (List Int)} (h : RowsP w B v vl xss) (hB : B' ≤ B) : RowsP w B' v vl xss := ⟨h.o.mono hB, h.pair⟩
theorem RowsP.nil (w : World) (B : Nat) : RowsP w B (.slice none 0 0) [] [] := ⟨RowsO.nil w B, fun j k _ hk => by simp at hk⟩
/-- one row in a new outer row -/
theorem RowsO.one {w : World} {B n c : Nat} {a : Option Addr} {r : List Int} (h : OwnI w B (.slice a n c) r) (hB : B ≤ w.heap.size) : RowsO (w.alloc (.cells #[.slice a n c] 26)) B (.slice (some ⟨w.heap.size, 0, none⟩) 1 1) [.slice a n c] [r] := by
  refine ⟨World.ownsRow_lit w #[.slice a n c] 1 hB (by unfold maxLen; omega) rfl, fun k hk => ?_, fun k hk d hd => ?_⟩
  · obtain rfl : k = 0 := by simp at hk; omega
    exact h.alloc _
  · obtain rfl : k = 0 := by simp at hk; omega
    have := (h.lt d hd).2
    simp only [Value.ownBlock, ne_eq, Option.some.injEq]
    omega
theorem RowsP.one {w : World} {B n c : Nat} {a : Option Addr} {r : List Int} (h : OwnI w B (.slice a n c) r) (hB : B ≤ w.heap.size) : RowsP (w.alloc (.cells #[.slice a n c] 26)) B (.slice (some ⟨w.heap.size, 0, none⟩) 1 1) [.slice a n c] [r] :=
  ⟨RowsO.one h hB, fun j k h1 h2 => by simp at h2; omega⟩
theorem RowsP.cat {w w' : World} {B C : Nat} {v v2 v' : Value} {vl vl2 : List Value} {xss yss : List (List Int)} (h : RowsP w B v vl xss) (h2 : RowsP w C v2 vl2 yss) (hBC : B ≤ C) (hvC : ∀ c, v.ownBlock = some c → c < C) (hrC : ∀ k, k < xss.length → ∀ c, (valAt vl k).ownBlock = some c → c < C)
    (ho : w'.ownsRow B 26 1 v' (xss.length + yss.length) (vl ++ vl2)) (hg : w.grownBy w' v.ownBlock) (hv' : v'.ownBlock = v.ownBlock ∨ v'.ownBlock = some w.heap.size) : RowsP w' B v' (vl ++ vl2) (xss ++ yss) := by
  refine ⟨h.o.cat h2.o hBC hvC ho hg hv', fun j k hjk hk c hc => ?_⟩
  have hl := h.o.vlen
  have hl2 := h2.o.vlen
  rw [List.length_append] at hk
  have e1 : ∀ k, k < xss.length → valAt (vl ++ vl2) k = valAt vl k := fun k hk => by rw [valAt, valAt, List.getD_eq_getElem?_getD, List.getD_eq_getElem?_getD, List.getElem?_append_left (by omega)]
  have e2 : ∀ k, xss.length ≤ k → valAt (vl ++ vl2) k = valAt vl2 (k - xss.length) := fun k hk => by rw [valAt, valAt, List.getD_eq_getElem?_getD, List.getD_eq_getElem?_getD, List.getElem?_append_right (by omega), hl]
  by_cases hk2 : k < xss.length
  · rw [e1 k hk2]
    rw [e1 j (by omega)] at hc
    exact h.pair j k hjk hk2 c hc
  · rw [e2 k (by omega)]
    by_cases hj2 : j < xss.length
    · rw [e1 j hj2] at hc
      have h3 := hrC j hj2 c hc
      intro h4
      have := ((h2.o.row (k - xss.length) (by omega)).lt c h4).1
      omega
    · rw [e2 j (by omega)] at hc
      exact h2.pair (j - xss.length) (k - xss.length) (by omega) (by omega) c hc
theorem RowsP.blk {w : World} {B : Nat} {v : Value} {vl : List Value} {xss : List (List Int)} (h : RowsP w B v vl xss) : (∀ c, v.ownBlock = some c → c < w.heap.size) ∧ ∀ k, k < xss.length → ∀ c, (valAt vl k).ownBlock = some c → c < w.heap.size :=
  ⟨fun c e => (h.o.lt c e).2, fun k hk c e => ((h.o.row k hk).lt c e).2⟩
/-- what the rows hold when they have been marked -/
def mkS (xss : List (List Int)) (k : Int) : List (List Int) := (List.range xss.length).map fun j => marks (k + ((totS xss j : Nat) : Int)) (rowL xss j).length
theorem mkS_len (xss : List (List Int)) (k : Int) : (mkS xss k).length = xss.length := by simp [mkS]
theorem mkS_row {xss : List (List Int)} {k : Int} {j : Nat} (h : j < xss.length) : rowL (mkS xss k) j = marks (k + ((totS xss j : Nat) : Int)) (rowL xss j).length := by
  simp [mkS, rowL, h]

theorem RowsP.cut {w : World} {B : Nat} {v : Value} {vl : List Value} {xss : List (List Int)} (h : RowsP w B v vl xss) {U : Nat} (hU : w.heap.size ≤ U) : (∀ c, v.ownBlock = some c → B ≤ c ∧ c < U) ∧ ∀ k, k < xss.length → ∀ c, (valAt vl k).ownBlock = some c → B ≤ c ∧ c < U :=
  ⟨fun c e => by have := h.o.lt c e; omega, fun k hk c e => by have := (h.o.row k hk).lt c e; omega⟩
theorem RowsP.touch {lo hi : Nat} {w w' : World} {B : Nat} {v : Value} {vl : List Value} {xss : List (List Int)} (h : RowsP w B v vl xss) (ht : TouchS lo hi w w') (h1 : ∀ c, v.ownBlock = some c → c < lo ∨ hi ≤ c) (h2 : ∀ k, k < xss.length → ∀ c, (valAt vl k).ownBlock = some c → c < lo ∨ hi ≤ c) : RowsP w' B v vl xss := by
  refine ⟨⟨⟨h.o.own.1, ?_⟩, fun k hk => (h.o.row k hk).touch ht (h2 k hk), h.o.apart⟩, h.pair⟩
  rcases h.o.own.2 with hn | ⟨g, cap, cur, e, hb', hg, rest⟩
  · exact .inl hn
  · refine .inr ⟨g, cap, cur, e, hb', ?_, rest⟩
    rw [ht.block g (Array.getElem?_eq_some_iff.1 hg).1 (h1 g (by rw [e]; rfl))]
    exact hg
theorem RowsP.kept {w w' : World} {B : Nat} {v : Value} {vl : List Value} {xss : List (List Int)} {row : Option Nat} (h : RowsP w B v vl xss) (hg : w.grownBy w' row) (h1 : ∀ c, v.ownBlock = some c → row ≠ some c) (h2 : ∀ k, k < xss.length → ∀ c, (valAt vl k).ownBlock = some c → row ≠ some c) : RowsP w' B v vl xss := by
  have e : ∀ u : Value, (∀ c, u.ownBlock = some c → row ≠ some c) → u.ownBlock = none ∨ u.ownBlock ≠ row := fun u hu => by
    cases hv : u.ownBlock with
    | none => exact .inl rfl
    | some c => exact .inr (fun e => hu c hv e.symm)
  exact ⟨⟨World.ownsRow.kept h.o.own hg (e v h1), fun k hk => (h.o.row k hk).kept hg (e _ (h2 k hk)), h.o.apart⟩, h.pair⟩
theorem OwnS.mono {w : World} {B B' g : Nat} {vl : List Value} {xss : List (List Int)} (h : OwnS w B g vl xss) (hB : B' ≤ B) : OwnS w B' g vl xss := ⟨Nat.le_trans hB h.lo, h.hi, h.max, h.cell, h.row, h.apart⟩
theorem TouchS.of_below {B lo hi : Nat} {w w1 w2 : World} (hb : Below w.heap.size w w1) (h : TouchS lo hi w1 w2) : TouchS lo hi w w2 :=
  ⟨h.os.trans hb.os, h.tape.trans hb.tape, h.output.trans hb.output, Nat.le_trans hb.size h.size, fun k hk hn => (h.block k (Nat.lt_of_lt_of_le hk hb.size) hn).trans (hb.block k hk)⟩

theorem OwnI.capLe {w : World} {B n cap : Nat} {a : Option Addr} {xs : List Int} (h : OwnI w B (.slice a n cap) xs) : n ≤ cap := by
  rcases h.2 with ⟨e, _⟩ | ⟨g, cap', cur, e, _, _, hc, _⟩
  · simp only [Value.slice.injEq] at e
    omega
  · simp only [Value.slice.injEq] at e
    omega
theorem Rd.take {w : World} {a : Option Addr} {xs : List Int} (h : Rd w a xs) (k : Nat) : Rd w a (xs.take k) :=
  ⟨Nat.le_trans (by rw [List.length_take]; exact Nat.min_le_right _ _) h.len, fun j hj => by
    have hj' : j < xs.length ∧ j < k := by rw [List.length_take] at hj; omega
    obtain ⟨b, off, e, hl, hc⟩ := h.cell j hj'.1
    refine ⟨b, off, e, hl, hc.trans ?_⟩
    simp [nth, List.getD_eq_getElem?_getD, List.getElem?_take, hj'.2]⟩

/-- rows that may be sliced: none is longer than its capacity -/
structure RdC (w : World) (a : Option Addr) (xss : List (List Int)) : Prop where
  rd : RdS w a xss
  cap : ∀ k, k < xss.length → ∃ b off a' cap', a = some ⟨b, off, none⟩ ∧ w.cell? ⟨b, off + k, none⟩ = some (.slice a' (rowL xss k).length cap') ∧ (rowL xss k).length ≤ cap'
theorem RdC.below {w w' : World} {a : Option Addr} {xss : List (List Int)} (h : RdC w a xss) (hb : Below w.heap.size w w') : RdC w' a xss :=
  ⟨h.rd.below hb, fun k hk => by
    obtain ⟨b, off, a', cap', e, hc, hl⟩ := h.cap k hk
    exact ⟨b, off, a', cap', e, (hb.cell (World.block_lt_of_cell? _ _ hc)).trans hc, hl⟩⟩
theorem RdC.row {w : World} {a : Option Addr} {xss : List (List Int)} (h : RdC w a xss) {k : Nat} (hk : k < xss.length) : ∃ b off a' cap', a = some ⟨b, off, none⟩ ∧ b < w.heap.size ∧ w.cell? ⟨b, off + k, none⟩ = some (.slice a' (rowL xss k).length cap') ∧ Rd w a' (rowL xss k) ∧ (rowL xss k).length ≤ cap' := by
  obtain ⟨b, off, a', cap', e, hl, hc, hr⟩ := h.rd.row k hk
  obtain ⟨b2, off2, a2, cap2, e2, hc2, hl2⟩ := h.cap k hk
  rw [e] at e2
  simp only [Option.some.injEq, Addr.mk.injEq, and_true] at e2
  obtain ⟨rfl, rfl⟩ := e2
  rw [hc] at hc2
  simp only [Option.some.injEq, Value.slice.injEq, true_and] at hc2
  exact ⟨b, off, a', cap', e, hl, hc, hr, by omega⟩
theorem OwnS.rdC {w : World} {B g : Nat} {vl : List Value} {xss : List (List Int)} (h : OwnS w B g vl xss) : RdC w (some ⟨g, 0, none⟩) xss :=
  ⟨h.rd, fun k hk => by
    have h1 := h.row k hk
    have h2 := h.cell k hk
    obtain ⟨a', cap', e⟩ := h1.form
    rw [e] at h1 h2
    exact ⟨g, 0, a', cap', rfl, by rw [Nat.zero_add]; exact h2, h1.capLe⟩⟩
theorem RowsP.rdC {w : World} {B n cap : Nat} {a : Option Addr} {vl : List Value} {xss : List (List Int)} (h : RowsP w B (.slice a n cap) vl xss) : RdC w a xss := by
  have hvl := h.o.vlen
  refine ⟨h.o.rd, fun k hk => ?_⟩
  obtain ⟨b, off, a', cap', e, hl, hc, hr⟩ := h.o.rd.row k hk
  refine ⟨b, off, a', cap', e, hc, ?_⟩
  have h2 := h.o.row k hk
  rcases h.o.own.2 with ⟨e3, h0⟩ | ⟨g, cap3, cur, e3, hb, hg, hn, hm, hs, ht⟩
  · omega
  · simp only [Value.slice.injEq] at e3
    obtain ⟨rfl, rfl, rfl⟩ := e3
    simp only [Option.some.injEq, Addr.mk.injEq, and_true] at e
    obtain ⟨rfl, rfl⟩ := e
    have h1 := World.ownsRow.cellAt h.o.own k (by omega)
    rw [Nat.zero_add] at hc
    rw [hc, valAt_get (by omega)] at h1
    simp only [Option.some.injEq] at h1
    rw [← h1] at h2
    exact h2.capLe

/-- a block that begins with this cell -/
def Box1 (w : World) (b : Nat) (u : Value) : Prop := b < w.heap.size ∧ w.cell? ⟨b, 0, none⟩ = some u
theorem Box1.below {w w' : World} {b : Nat} {u : Value} (h : Box1 w b u) (hb : Below w.heap.size w w') : Box1 w' b u :=
  ⟨Nat.lt_of_lt_of_le h.1 hb.size, (hb.cell (p := ⟨b, 0, none⟩) h.1).trans h.2⟩
theorem Box1.new (w : World) (u : Value) (t : TypeId) : Box1 (w.alloc (.cells #[u] t)) w.heap.size u := ⟨by simp, by simp⟩
theorem Box1.kept {w w' : World} {b : Nat} {u : Value} {row : Option Nat} (h : Box1 w b u) (hg : w.grownBy w' row) (hne : some b ≠ row) : Box1 w' b u :=
  ⟨Nat.lt_of_lt_of_le h.1 hg.size, hg.cell h.2 hne⟩
theorem Box1.touch {lo hi : Nat} {w w' : World} {b : Nat} {u : Value} (h : Box1 w b u) (ht : TouchS lo hi w w') (hb : b < lo ∨ hi ≤ b) : Box1 w' b u :=
  ⟨Nat.lt_of_lt_of_le h.1 ht.size, (World.cell?_of_block (w := w) (a := ⟨b, 0, none⟩) (ht.block b h.1 hb)).trans h.2⟩
/-- a block that begins with this cell, which may be written -/
def Var1 (w : World) (b : Nat) (u : Value) : Prop := Box1 w b u ∧ w.frozen? ⟨b, 0, none⟩ = false
theorem Var1.new (w : World) (u : Value) (t : TypeId) : Var1 (w.alloc (.cells #[u] t)) w.heap.size u := ⟨Box1.new w u t, by simp⟩
theorem Var1.below {w w' : World} {b : Nat} {u : Value} (h : Var1 w b u) (hb : Below w.heap.size w w') : Var1 w' b u :=
  ⟨h.1.below hb, (hb.frozen (p := ⟨b, 0, none⟩) h.1.1).trans h.2⟩
theorem Var1.alloc {w : World} {b : Nat} {u : Value} (h : Var1 w b u) (o : Obj) : Var1 (w.alloc o) b u := h.below ((Below.refl _ _).alloc (Nat.le_refl _) o)
theorem Var1.kept {w w' : World} {b : Nat} {u : Value} {row : Option Nat} (h : Var1 w b u) (hg : w.grownBy w' row) (hne : some b ≠ row) : Var1 w' b u :=
  ⟨h.1.kept hg hne, (World.frozen?_of_block (w := w) (a := ⟨b, 0, none⟩) (hg.block b h.1.1 hne)).trans h.2⟩
theorem Var1.set {w : World} {b : Nat} {u : Value} (h : Var1 w b u) (x : Value) : Var1 (w.setCell ⟨b, 0, none⟩ x) b x :=
  ⟨⟨by simpa using h.1.1, World.cell?_setCell_same _ _ _ h.1.2⟩, by simpa using h.2⟩
theorem Var1.other {w : World} {b : Nat} {u : Value} (h : Var1 w b u) {p : Addr} (x : Value) (hne : b ≠ p.block) : Var1 (w.setCell p x) b u :=
  h.kept (grown_set w p x) (by simpa using hne)

theorem toMx_any (a : Option Addr) (xss : List (List Int)) (cap : Nat) (w : World) (hx : RdS w a xss) (hn : xss.length + totS xss xss.length ≤ 1048576) :
    Calls Try.prog 12 #[.agg #[.slice a xss.length cap]] w fun e w' => ∃ g cap' vl, e = .returned (.agg #[.slice (some ⟨g, 0, none⟩) xss.length cap']) ∧ OwnS w' w.heap.size g vl xss ∧ Below w.heap.size w w' := by
  have hlen := hx.len
  go_enter Try.func12, Try.ntmps12
  obtain ⟨W0, hW0⟩ : ∃ x : World, x = ((w.alloc (.cells #[.slice a xss.length cap] 24)).alloc (.cells #[.slice none 0 0] 29)).alloc (.cells #[.slice none 0 0] 29) := ⟨_, rfl⟩
  have b0 : Below w.heap.size w W0 := by rw [hW0]; exact (by repeat (first | exact Below.refl _ _ | assumption | refine Below.alloc ?_ (by first | exact Nat.le_refl _ | (simp only [World.size_alloc, World.size_setCell, World.size_drew]; omega) | omega) _ | refine Below.setCell ?_ (by first | exact Nat.le_refl _ | (simp only [World.size_alloc, World.size_setCell, World.size_drew]; omega) | omega) _ | refine Below.drew ?_))
  have v1 := (Var1.new (w.alloc (.cells #[.slice a xss.length cap] 24)) (.slice none 0 0) 29).alloc (.cells #[.slice none 0 0] 29)
  have v2 := Var1.new ((w.alloc (.cells #[.slice a xss.length cap] 24)).alloc (.cells #[.slice none 0 0] 29)) (.slice none 0 0) 29
  rw [← hW0] at v1 v2
  simp only [World.size_alloc] at v1 v2
  have ⟨⟨_, c1⟩, f1⟩ := v1
  have ⟨⟨_, c2⟩, f2⟩ := v2
  have hz0 : W0.heap.size = w.heap.size + 3 := by rw [hW0]; simp
  have HCALL := Lib.hid (toIntSS_any a xss cap W0 (hx.below b0) hn)
  have HW := Lib.hid hW0
  rw [hW0] at HCALL
  clear hW0
  go_wp2_with fail
  refine HCALL.out.mono ?_
  rintro e w1 ⟨g, cap', vl, rfl, ho, hb⟩
  rw [← HW.out] at ho hb
  have c1' := (hb.cell (p := ⟨w.heap.size + 1, 0, none⟩) (show w.heap.size + 1 < W0.heap.size by omega)).trans c1
  have c2' := (hb.cell (p := ⟨w.heap.size + 2, 0, none⟩) (show w.heap.size + 2 < W0.heap.size by omega)).trans c2
  have f1' := (hb.frozen (p := ⟨w.heap.size + 1, 0, none⟩) (show w.heap.size + 1 < W0.heap.size by omega)).trans f1
  have f2' := (hb.frozen (p := ⟨w.heap.size + 2, 0, none⟩) (show w.heap.size + 2 < W0.heap.size by omega)).trans f2
  have b1 : Below w.heap.size w w1 := b0.trans (hb.mono b0.size)
  have hs1 : w.heap.size + 3 ≤ w1.heap.size := by have := hb.size; omega
  have HO := Lib.hid ho
  clear hb c1 c2 f1 f2 v1 v2 ho HCALL HW b0
  go_wp2_with fail
  have b2 := (b1.setCell (p := ⟨w.heap.size + 2, 0, none⟩) (show w.heap.size ≤ w.heap.size + 2 by omega) (.slice (some ⟨g, 0, none⟩) xss.length cap')).setCell (p := ⟨w.heap.size + 1, 0, none⟩) (show w.heap.size ≤ w.heap.size + 1 by omega) (.slice (some ⟨g, 0, none⟩) xss.length cap')
  have hq : ((w1.setCell ⟨w.heap.size + 2, 0, none⟩ (.slice (some ⟨g, 0, none⟩) xss.length cap')).setCell ⟨w.heap.size + 1, 0, none⟩ (.slice (some ⟨g, 0, none⟩) xss.length cap')).cell? ⟨w.heap.size + 1, 0, none⟩ = some (.slice (some ⟨g, 0, none⟩) xss.length cap') :=
    World.cell?_setCell_same _ _ _ (u := .slice none 0 0) (by rw [World.cell?_setCell_other _ _ _ _ (by simp)]; exact c1')
  refine bodyPost_ret (v := .agg #[.slice (some ⟨g, 0, none⟩) xss.length cap']) (by simp [results, Try.results12, go_sem, hq]) rfl ?_
  have hset : ∀ (p : Addr) (u : Value) (w9 : World), p.block < W0.heap.size → OwnS w9 W0.heap.size g vl xss → OwnS (w9.setCell p u) W0.heap.size g vl xss := fun p u w9 e h =>
    ⟨h.lo, by simpa using h.hi, h.max, fun k hk => (World.cell?_setCell_other _ _ _ _ (by intro e2; have := congrArg Addr.block e2; simp at this; have := h.lo; omega)).trans (h.cell k hk), fun k hk => (h.row k hk).setBelow (by have := h.lo; omega) u, h.apart⟩
  exact ⟨g, cap', vl, rfl, (hset _ _ _ (by simp; omega) (hset _ _ _ (by simp; omega) HO.out)).mono (by omega), b2⟩

def eqL (xs ys : List Int) : Bool := decide (xs = ys)
theorem eqIntS_any (a b : Option Addr) (xs ys : List Int) (ca cb : Nat) (w : World) (hx : Rd w a xs) (hy : Rd w b ys) :
    Calls Try.prog 14 #[.slice a xs.length ca, .slice b ys.length cb] w fun e w' => e = .returned (.bool (eqL xs ys)) ∧ Below w.heap.size w w' := by
  have hlx := hx.len
  have hly := hy.len
  by_cases hl : xs.length = ys.length
  · have hl' : ((xs.length : Int) != (ys.length : Int)) = false := by simp [hl]
    go_enter Try.func14, Try.ntmps14
    have HL := Lib.hid hl
    clear hl
    go_wp2_with fail
    go_loopw [5] (fun i wr => ∃ k : Nat, k ≤ xs.length ∧ i = .int .i64 k ∧ xs.take k = ys.take k ∧ Below w.heap.size w wr) (fun i _ => xs.length - (intOf i).toNat)
    case atStart => exact ⟨0, Nat.zero_le _, rfl, rfl, Below.refl _ _⟩
    case round =>
      obtain ⟨k, hk, rfl, htk, hb⟩ := hrel
      have HT := Lib.hid htk
      clear htk
      by_cases hlt : k < xs.length
      · have hlt' : k < ys.length := by rw [← HL.out]; exact hlt
        obtain ⟨b1, o1, rfl, hb1, hc1⟩ := (hx.below hb).cell k hlt
        obtain ⟨b2, o2, rfl, hb2, hc2⟩ := (hy.below hb).cell k hlt'
        by_cases he : nth xs k = nth ys k
        · have he' : (nth xs k != nth ys k) = false := by simp [he]
          have HE := Lib.hid he
          clear he
          go_wp2_with fail
          go_quiet (fail)
          go_wp2_with fail
          go_roundw
          case rel =>
            refine ⟨k + 1, by omega, by go_num, ?_, by exact hb.trans (Joins.below_draws _ _ _)⟩
            rw [List.take_succ_eq_append_getElem hlt, List.take_succ_eq_append_getElem hlt', HT.out, ← nth_get, ← nth_get, HE.out]
          case measure => simp [intOf]; omega
        · have he' : (nth xs k != nth ys k) = true := by simp [he]
          have hne : eqL xs ys = false := by
            simp only [eqL, decide_eq_false_iff_not]
            intro e
            subst e
            exact he rfl
          have HN := Lib.hid hne
          clear he hne
          go_wp2_with fail
          go_quiet (fail)
          go_wp2_with fail
          go_ret
          exact ⟨ret_bool HN.out.symm, hb.trans (Joins.below_draws _ _ _)⟩
      · go_wp2_with fail
        go_ret
        refine ⟨ret_bool ?_, hb⟩
        have h1 := HT.out
        rw [List.take_of_length_le (by omega), List.take_of_length_le (by rw [← HL.out]; omega)] at h1
        simp [eqL, h1]
  · have hl' : ((xs.length : Int) != (ys.length : Int)) = true := by simp; omega
    have hne : eqL xs ys = false := by
      simp only [eqL, decide_eq_false_iff_not]
      intro e
      exact hl (by rw [e])
    have HN := Lib.hid hne
    clear hl hne
    go_enter Try.func14, Try.ntmps14
    go_wp2_with fail
    go_ret
    exact ⟨ret_bool HN.out.symm, Below.refl _ _⟩
theorem eqL_self (xs : List Int) : eqL xs xs = true := by simp [eqL]

theorem eqIntSS_same (a b : Option Addr) (xss : List (List Int)) (ca cb : Nat) (w : World) (hx : RdS w a xss) (hy : RdS w b xss) :
    Calls Try.prog 46 #[.slice a xss.length ca, .slice b xss.length cb] w fun e w' => e = .returned (.bool true) ∧ Below w.heap.size w w' := by
  have hlen := hx.len
  go_enter Try.func46, Try.ntmps46
  go_wp2_with fail
  go_loopw [5] (fun i wr => ∃ k : Nat, k ≤ xss.length ∧ i = .int .i64 k ∧ Below w.heap.size w wr) (fun i _ => xss.length - (intOf i).toNat)
  case atStart => exact ⟨0, Nat.zero_le _, rfl, Below.refl _ _⟩
  case round =>
    obtain ⟨k, hk, rfl, hb⟩ := hrel
    by_cases hlt : k < xss.length
    · obtain ⟨b1, off1, a1, cap1, rfl, hbl1, hc1, hr1⟩ := (hx.below hb).row k hlt
      obtain ⟨b2, off2, a2, cap2, rfl, hbl2, hc2, hr2⟩ := (hy.below hb).row k hlt
      have k1 : (k : Int) < (xss.length : Int) := by omega
      have HE : Hid (eqL (rowL xss k) (rowL xss k) = true) := eqL_self _
      go_wp2_with fail
      go_region_held3 (fun w' => w'.cell? ⟨b1, off1 + k, none⟩ = some (.slice a1 (rowL xss k).length cap1) ∧ w'.cell? ⟨b2, off2 + k, none⟩ = some (.slice a2 (rowL xss k).length cap2))
        (first | exact ⟨(ht3.cell (p := ⟨b1, off1 + k, none⟩) hbl1).trans hc1, (ht3.cell (p := ⟨b2, off2 + k, none⟩) hbl2).trans hc2⟩ | go_keep)
        (first | (go_at_call 14; refine (eqIntS_any _ _ _ _ _ _ _ (hr1.below (Joins.below_draws _ _ _)) (hr2.below (Joins.below_draws _ _ _))).mono ?_; rw [HE.out]; rintro e w3 ⟨rfl, hb3⟩; have ht3 : Below wr.heap.size wr w3 := (Joins.below_draws _ _ _).trans hb3))
      have bw3 := hb.trans (ht3.mono hb.size)
      clear hb3 ht3 hc1 hc2
      go_wp2_with fail
      go_roundw
      case rel => exact ⟨k + 1, by omega, by go_num, bw3⟩
      case measure => simp [intOf]; omega
    · obtain rfl : k = xss.length := by omega
      go_wp2_with fail
      go_ret
      exact ⟨rfl, hb⟩

theorem eqMx_any (a b : Option Addr) (xss : List (List Int)) (ca cb : Nat) (w : World) (hx : RdS w a xss) (hy : RdS w b xss) :
    Calls Try.prog 15 #[.agg #[.slice a xss.length ca], .agg #[.slice b xss.length cb]] w fun e w' => e = .returned (.bool true) ∧ Below w.heap.size w w' := by
  have hlen := hx.len
  go_enter Try.func15, Try.ntmps15
  go_wp2_with fail
  refine (eqIntSS_same _ _ _ _ _ _ (hx.below (by repeat (first | exact Below.refl _ _ | assumption | refine Below.alloc ?_ (by first | exact Nat.le_refl _ | (simp only [World.size_alloc, World.size_setCell, World.size_drew]; omega) | omega) _ | refine Below.setCell ?_ (by first | exact Nat.le_refl _ | (simp only [World.size_alloc, World.size_setCell, World.size_drew]; omega) | omega) _ | refine Below.drew ?_))) (hy.below (by repeat (first | exact Below.refl _ _ | assumption | refine Below.alloc ?_ (by first | exact Nat.le_refl _ | (simp only [World.size_alloc, World.size_setCell, World.size_drew]; omega) | omega) _ | refine Below.setCell ?_ (by first | exact Nat.le_refl _ | (simp only [World.size_alloc, World.size_setCell, World.size_drew]; omega) | omega) _ | refine Below.drew ?_)))).mono ?_
  rintro e w1 ⟨rfl, hb⟩
  go_wp2_with fail
  go_ret
  exact ⟨rfl, Below.trans (by repeat (first | exact Below.refl _ _ | assumption | refine Below.alloc ?_ (by first | exact Nat.le_refl _ | (simp only [World.size_alloc, World.size_setCell, World.size_drew]; omega) | omega) _ | refine Below.setCell ?_ (by first | exact Nat.le_refl _ | (simp only [World.size_alloc, World.size_setCell, World.size_drew]; omega) | omega) _ | refine Below.drew ?_)) (hb.mono (by first | (simp only [World.size_alloc, World.size_setCell, World.size_drew]; omega) | omega))⟩

/-- the list of f 0, .., f (k - 1) -/
def fmap (f : Nat → Int) (k : Nat) : List Int := (List.range k).map f
theorem fmap_len (f : Nat → Int) (k : Nat) : (fmap f k).length = k := by simp [fmap]
theorem fmap_nth (f : Nat → Int) {k i : Nat} (h : i < k) : nth (fmap f k) i = f i := by simp [nth, fmap, h]
theorem fmap_succ (f : Nat → Int) (k : Nat) : fmap f (k+1) = fmap f k ++ [f k] := by simp [fmap, List.range_succ]
/-- one store more into a row that was made -/
theorem fill_step (f : Nat → Int) (m k : Nat) (h : k < m) :
    ((fmap f k ++ List.replicate (m - k) (0:Int)).map (Value.int .i64)).set k (.int .i64 (f k)) = (fmap f (k+1) ++ List.replicate (m - (k+1)) (0:Int)).map (Value.int .i64) := by
  apply List.ext_getElem?
  intro j
  rw [List.getElem?_set]
  by_cases hj : k = j
  · subst hj
    rw [if_pos rfl, if_pos (by simp [fmap_len]; omega), List.getElem?_map, List.getElem?_append_left (by rw [fmap_len]; omega)]
    simp [fmap]
  · simp only [hj, if_false, List.getElem?_map, List.getElem?_append, fmap_len, List.getElem?_replicate]
    by_cases h1 : j < k
    · have h2 : j < k + 1 := by omega
      simp [h1, h2, fmap]
    · have h2 : ¬ j < k + 1 := by omega
      have h3 : j - k < m - k ↔ j - (k+1) < m - (k+1) := by omega
      simp [h1, h2, h3]
theorem fill_end (f : Nat → Int) (m : Nat) : fmap f m ++ List.replicate (m - m) (0:Int) = fmap f m := by simp
/-- the row that a make of m integers has made -/
theorem made_ints {w1 : World} {B : Nat} {v : Value} {m : Nat} (f : Nat → Int) (h : w1.ownsRow B 3 1 v m (madeCells (Value.int .i64 0).cells (m * 1)).toList) :
    w1.ownsRow B 3 1 v m ((fmap f 0 ++ List.replicate (m - 0) (0:Int)).map (Value.int .i64)) := by
  simpa [Value.cells, toList_madeCells_one, fmap] using h

/-- the greatest of the first k numbers, or -1 -/
def mostTo (l : List Int) : Nat → Int
  | 0 => -1
  | k+1 => if nth l k < mostTo l k then mostTo l k else nth l k
theorem mostTo_ge (l : List Int) : ∀ k j, j < k → nth l j ≤ mostTo l k
  | 0, j, hj => by omega
  | k+1, j, hj => by
    simp only [mostTo]
    by_cases e : j = k
    · subst e; split <;> omega
    · have := mostTo_ge l k j (by omega)
      split <;> omega
theorem mostTo_le {l : List Int} {x : Int} (hx : -1 ≤ x) : ∀ k, (∀ j, j < k → nth l j ≤ x) → mostTo l k ≤ x
  | 0, _ => hx
  | k+1, h => by
    have h1 := mostTo_le hx k (fun j hj => h j (by omega))
    have h2 := h k (by omega)
    simp only [mostTo]
    split <;> omega

/-- the sum of the first k numbers -/
def totI (xs : List Int) : Nat → Int
  | 0 => 0
  | k+1 => totI xs k + nth xs k
def totR (xs : List Int) : Int := totI xs xs.length
theorem totI_nn {xs : List Int} : ∀ {k : Nat}, (∀ j, j < k → 0 ≤ nth xs j) → 0 ≤ totI xs k
  | 0, _ => by simp [totI]
  | k+1, h => by
    have h1 := totI_nn (xs := xs) (k := k) (fun j hj => h j (by omega))
    have h2 := h k (by omega)
    rw [totI]; omega
theorem totI_mono {xs : List Int} {j : Nat} : ∀ {k : Nat}, j ≤ k → (∀ i, i < k → 0 ≤ nth xs i) → totI xs j ≤ totI xs k
  | 0, h, _ => by obtain rfl : j = 0 := by omega
                  exact Int.le_refl _
  | k+1, h, hn => by
    by_cases e : j = k + 1
    · rw [e]; exact Int.le_refl _
    · have h1 := totI_mono (xs := xs) (j := j) (k := k) (by omega) (fun i hi => hn i (by omega))
      have h2 := hn k (by omega)
      rw [totI]; omega
theorem totI_at {xs : List Int} {j k : Nat} (hj : j < k) (hn : ∀ i, i < k → 0 ≤ nth xs i) : nth xs j ≤ totI xs k := by
  have h1 := totI_mono (xs := xs) (j := j + 1) (k := k) (by omega) hn
  have h2 := totI_nn (xs := xs) (k := j) (fun i hi => hn i (by omega))
  rw [totI] at h1; omega
theorem totI_zero {xs : List Int} : ∀ {k : Nat}, (∀ j, j < k → nth xs j = 0) → totI xs k = 0
  | 0, _ => rfl
  | k+1, h => by rw [totI, totI_zero (fun j hj => h j (by omega)), h k (by omega)]; rfl
/-- the sum of the first k rows -/
def matS (xss : List (List Int)) : Nat → Int
  | 0 => 0
  | k+1 => matS xss k + totR (rowL xss k)
theorem matS_nn {xss : List (List Int)} : ∀ {k : Nat}, (∀ j, j < k → 0 ≤ totR (rowL xss j)) → 0 ≤ matS xss k
  | 0, _ => by simp [matS]
  | k+1, h => by
    have h1 := matS_nn (xss := xss) (k := k) (fun j hj => h j (by omega))
    have h2 := h k (by omega)
    rw [matS]; omega
theorem matS_mono {xss : List (List Int)} {j : Nat} : ∀ {k : Nat}, j ≤ k → (∀ i, i < k → 0 ≤ totR (rowL xss i)) → matS xss j ≤ matS xss k
  | 0, h, _ => by obtain rfl : j = 0 := by omega
                  exact Int.le_refl _
  | k+1, h, hn => by
    by_cases e : j = k + 1
    · rw [e]; exact Int.le_refl _
    · have h1 := matS_mono (xss := xss) (j := j) (k := k) (by omega) (fun i hi => hn i (by omega))
      have h2 := hn k (by omega)
      rw [matS]; omega
/-- no number of a list is negative -/
def nnB (xs : List Int) : Bool := (List.range xs.length).all fun j => decide (0 ≤ nth xs j)
theorem nnB_iff {xs : List Int} : nnB xs = true ↔ ∀ j, j < xs.length → 0 ≤ nth xs j := by simp [nnB]
/-- may lists be the rows (or the columns) of a matrix? -/
def adB (xss : List (List Int)) : Bool := ((List.range xss.length).all fun k => nnB (rowL xss k) && decide (0 < totR (rowL xss k))) && decide (matS xss xss.length ≤ 12)
theorem adB_iff {xss : List (List Int)} : adB xss = true ↔ (∀ k, k < xss.length → (∀ j, j < (rowL xss k).length → 0 ≤ nth (rowL xss k) j) ∧ 0 < totR (rowL xss k)) ∧ matS xss xss.length ≤ 12 := by
  simp only [adB, Bool.and_eq_true, List.all_eq_true, List.mem_range, decide_eq_true_eq, nnB_iff]
theorem matS_ge {xss : List (List Int)} : ∀ {k : Nat}, (∀ j, j < k → 0 < totR (rowL xss j)) → (k : Int) ≤ matS xss k
  | 0, _ => by simp [matS]
  | k+1, h => by
    have h1 := matS_ge (xss := xss) (k := k) (fun j hj => h j (by omega))
    have h2 := h k (by omega)
    rw [matS]; omega
theorem adB_small {xss : List (List Int)} (h : adB xss = true) : xss.length ≤ 12 := by
  have ⟨h1, h2⟩ := adB_iff.1 h
  have := matS_ge (xss := xss) (k := xss.length) (fun j hj => (h1 j hj).2)
  omega
theorem adB_row {xss : List (List Int)} (h : adB xss = true) {k : Nat} (hk : k < xss.length) : 0 < totR (rowL xss k) ∧ totR (rowL xss k) ≤ 12 := by
  have ⟨h1, h2⟩ := adB_iff.1 h
  have h3 := matS_mono (xss := xss) (j := k + 1) (k := xss.length) (by omega) (fun i hi => by have := (h1 i hi).2; omega)
  have h4 := matS_nn (xss := xss) (k := k) (fun i hi => by have := (h1 i (by omega)).2; omega)
  have := (h1 k hk).2
  rw [matS] at h3
  omega
theorem adB_num {xss : List (List Int)} (h : adB xss = true) {k j : Nat} (hk : k < xss.length) (hj : j < (rowL xss k).length) : 0 ≤ nth (rowL xss k) j ∧ nth (rowL xss k) j ≤ 12 := by
  have ⟨h1, h2⟩ := adB_iff.1 h
  have h3 := (adB_row h hk).2
  have h4 := totI_at (xs := rowL xss k) hj (h1 k hk).1
  exact ⟨(h1 k hk).1 j hj, by rw [totR] at h3; omega⟩
/-- the number of a matrix in a row and a column -/
def atM (xss : List (List Int)) (i j : Nat) : Int := nth (rowL xss i) j
def colL (xss : List (List Int)) (j : Nat) : List Int := fmap (fun i => atM xss i j) xss.length
def colsL (xss : List (List Int)) : List (List Int) := (List.range xss.length).map (colL xss)
theorem colL_len (xss : List (List Int)) (j : Nat) : (colL xss j).length = xss.length := fmap_len _ _
theorem colsL_len (xss : List (List Int)) : (colsL xss).length = xss.length := by simp [colsL]
theorem colsL_row {xss : List (List Int)} {j : Nat} (h : j < xss.length) : rowL (colsL xss) j = colL xss j := by simp [colsL, rowL, h]
theorem colL_nth {xss : List (List Int)} {i : Nat} (j : Nat) (h : i < xss.length) : nth (colL xss j) i = atM xss i j := fmap_nth _ h
/-- are there as many columns as rows, and nothing below the diagonal? -/
def upB (xss : List (List Int)) : Bool := (List.range xss.length).all fun i => decide ((rowL xss i).length = xss.length) && (List.range i).all fun j => decide (atM xss i j = 0)
theorem upB_iff {xss : List (List Int)} : upB xss = true ↔ ∀ i, i < xss.length → (rowL xss i).length = xss.length ∧ ∀ j, j < i → atM xss i j = 0 := by
  simp [upB]
/-- is it a matrix? -/
def mxB (xss : List (List Int)) : Bool := adB xss && (upB xss && adB (colsL xss))
theorem mxB_iff {xss : List (List Int)} : mxB xss = true ↔ adB xss = true ∧ upB xss = true ∧ adB (colsL xss) = true := by simp [mxB]
theorem mxB_len {xss : List (List Int)} (h : mxB xss = true) {k : Nat} (hk : k < xss.length) : (rowL xss k).length = xss.length := (upB_iff.1 (mxB_iff.1 h).2.1 k hk).1
theorem mxB_small {xss : List (List Int)} (h : mxB xss = true) : xss.length ≤ 12 := adB_small (mxB_iff.1 h).1
theorem mxB_num {xss : List (List Int)} (h : mxB xss = true) {i j : Nat} (hi : i < xss.length) (hj : j < xss.length) : 0 ≤ atM xss i j ∧ atM xss i j ≤ 12 :=
  adB_num (mxB_iff.1 h).1 hi (by rw [mxB_len h hi]; exact hj)
theorem mostTo_ex {l : List Int} : ∀ {k : Nat}, 0 < k → ∃ j, j < k ∧ mostTo l k = nth l j ∨ mostTo l k = -1
  | 0, h => by omega
  | k+1, _ => by
    simp only [mostTo]
    split
    · by_cases hk : 0 < k
      · obtain ⟨j, hj⟩ := mostTo_ex (l := l) hk
        rcases hj with ⟨h1, h2⟩ | h2
        · exact ⟨j, .inl ⟨by omega, h2⟩⟩
        · exact ⟨j, .inr h2⟩
      · obtain rfl : k = 0 := by omega
        exact ⟨0, .inr rfl⟩
    · exact ⟨k, .inl ⟨by omega, rfl⟩⟩
/-- of numbers that are not negative the greatest is 0 exactly if their sum is, or there are none -/
theorem most_pos {l : List Int} (hl : 0 < l.length) (hn : ∀ j, j < l.length → 0 ≤ nth l j) : mostTo l l.length ≠ 0 ↔ 0 < totR l := by
  constructor
  · intro h
    have h0 := mostTo_ge l l.length 0 hl
    have h1 := hn 0 hl
    obtain ⟨j, hj⟩ := mostTo_ex (l := l) hl
    rcases hj with ⟨h2, h3⟩ | h3
    · have := totI_at h2 hn
      rw [totR]; omega
    · omega
  · intro h e
    have hz : totI l l.length = 0 := totI_zero (fun j hj => by
      have := mostTo_ge l l.length j hj
      have := hn j hj
      omega)
    rw [totR] at h
    omega

/-- the first of k places where a number is not 0, or k -/
def firstNZ (f : Nat → Int) : Nat → Nat
  | 0 => 0
  | k+1 => if firstNZ f k < k then firstNZ f k else if f k = 0 then k + 1 else k
theorem firstNZ_le (f : Nat → Int) : ∀ k, firstNZ f k ≤ k
  | 0 => Nat.le_refl _
  | k+1 => by rw [firstNZ]; split; (· omega); (· split <;> omega)
theorem firstNZ_all {f : Nat → Int} : ∀ {k : Nat}, (∀ j, j < k → f j = 0) → firstNZ f k = k
  | 0, _ => rfl
  | k+1, h => by
    have h1 := firstNZ_all (f := f) (k := k) (fun j hj => h j (by omega))
    rw [firstNZ, if_neg (by omega), if_pos (h k (by omega))]
theorem firstNZ_at {f : Nat → Int} {k : Nat} (h : ∀ j, j < k → f j = 0) (hk : f k ≠ 0) : ∀ {n : Nat}, k < n → firstNZ f n = k
  | 0, hn => by omega
  | n+1, hn => by
    by_cases e : k = n
    · subst e
      rw [firstNZ, if_neg (by have := firstNZ_all h; omega), if_neg hk]
    · rw [firstNZ, firstNZ_at h hk (by omega), if_pos (by omega)]
theorem firstNZ_zero {f : Nat → Int} : ∀ {n j : Nat}, j < firstNZ f n → f j = 0
  | 0, j, h => by simp [firstNZ] at h
  | n+1, j, h => by
    rw [firstNZ] at h
    split at h
    · exact firstNZ_zero h
    · rename_i h1
      have h2 := firstNZ_le f n
      split at h
      · rename_i h3
        by_cases e : j = n
        · rw [e]; exact h3
        · exact firstNZ_zero (n := n) (by omega)
      · exact firstNZ_zero (n := n) (by omega)
theorem firstNZ_ne {f : Nat → Int} : ∀ {n : Nat}, firstNZ f n < n → f (firstNZ f n) ≠ 0
  | 0, h => by omega
  | n+1, h => by
    by_cases h1 : firstNZ f n < n
    · have e : firstNZ f (n+1) = firstNZ f n := by rw [firstNZ, if_pos h1]
      rw [e]; exact firstNZ_ne h1
    · by_cases h2 : f n = 0
      · have e : firstNZ f (n+1) = n + 1 := by rw [firstNZ, if_neg h1, if_pos h2]
        omega
      · have e : firstNZ f (n+1) = n := by rw [firstNZ, if_neg h1, if_neg h2]
        rw [e]; exact h2
/-- the least row whose number in the last column is not 0 -/
def topN (xss : List (List Int)) : Nat := firstNZ (fun i => atM xss i (xss.length - 1)) xss.length
theorem topN_lt {xss : List (List Int)} (h : mxB xss = true) (hn : 0 < xss.length) : topN xss < xss.length := by
  have h1 := firstNZ_le (fun i => atM xss i (xss.length - 1)) xss.length
  rcases Nat.lt_or_eq_of_le h1 with h2 | h2
  · exact h2
  · exfalso
    have h3 : ∀ i, i < xss.length → atM xss i (xss.length - 1) = 0 := fun i hi => firstNZ_zero (f := fun i => atM xss i (xss.length - 1)) (n := xss.length) (by omega)
    have h4 := (adB_iff.1 (mxB_iff.1 h).2.2).1 (xss.length - 1) (by rw [colsL_len]; omega)
    rw [colsL_row (by omega)] at h4
    have h5 : totR (colL xss (xss.length - 1)) = 0 := by
      rw [totR]
      exact totI_zero (fun j hj => by rw [colL_len] at hj; rw [colL_nth _ hj]; exact h3 j hj)
    omega
theorem topN_zero {xss : List (List Int)} {j : Nat} (h : j < topN xss) : atM xss j (xss.length - 1) = 0 := firstNZ_zero (f := fun i => atM xss i (xss.length - 1)) h
theorem topN_ne {xss : List (List Int)} (h : mxB xss = true) (hn : 0 < xss.length) : atM xss (topN xss) (xss.length - 1) ≠ 0 := firstNZ_ne (f := fun i => atM xss i (xss.length - 1)) (topN_lt h hn)
def topB (xss : List (List Int)) : Bool := mxB xss && decide (xss.length ≠ 0)
def topV (xss : List (List Int)) : Int := if topB xss then ((topN xss : Nat) : Int) else 0
def topI (xss : List (List Int)) : Int := if xss.length = 0 then -1 else ((topN xss : Nat) : Int)

/-- the rows of n times m numbers -/
def sqM (f : Nat → Nat → Int) (n m : Nat) : List (List Int) := (List.range n).map fun i => fmap (f i) m
theorem sqM_len (f : Nat → Nat → Int) (n m : Nat) : (sqM f n m).length = n := by simp [sqM]
theorem sqM_row {f : Nat → Nat → Int} {n m i : Nat} (h : i < n) : rowL (sqM f n m) i = fmap (f i) m := by simp [sqM, rowL, h]
theorem sqM_rlen {f : Nat → Nat → Int} {n m i : Nat} (h : i < n) : (rowL (sqM f n m) i).length = m := by rw [sqM_row h, fmap_len]
theorem sqM_at {f : Nat → Nat → Int} {n m i j : Nat} (hi : i < n) (hj : j < m) : atM (sqM f n m) i j = f i j := by rw [atM, sqM_row hi, fmap_nth _ hj]
theorem rowL_get {xss : List (List Int)} {i : Nat} (h : i < xss.length) : xss[i]? = some (rowL xss i) := by simp [rowL, h]
theorem fmap_ext {f g : Nat → Int} {k : Nat} (h : ∀ i, i < k → f i = g i) : fmap f k = fmap g k := by
  simp only [fmap]
  exact List.map_congr_left (fun i hi => h i (List.mem_range.1 hi))
theorem sqM_congr {f g : Nat → Nat → Int} {n m : Nat} (h : ∀ i, i < n → ∀ j, j < m → f i j = g i j) : sqM f n m = sqM g n m := by
  simp only [sqM]
  exact List.map_congr_left (fun i hi => fmap_ext (fun j hj => h i (List.mem_range.1 hi) j hj))
theorem list_fmap (xs : List Int) : xs = fmap (nth xs) xs.length := by
  apply List.ext_getElem?
  intro i
  by_cases h : i < xs.length
  · simp [fmap, h, nth]
  · simp [fmap, h]
theorem rows_ext {xss yss : List (List Int)} (hl : xss.length = yss.length) (h : ∀ i, i < xss.length → rowL xss i = rowL yss i) : xss = yss := by
  apply List.ext_getElem?
  intro i
  by_cases hi : i < xss.length
  · rw [rowL_get hi, rowL_get (by omega), h i hi]
  · rw [List.getElem?_eq_none (by omega), List.getElem?_eq_none (by omega)]
theorem sq_eta {xss : List (List Int)} {m : Nat} (h : ∀ i, i < xss.length → (rowL xss i).length = m) : xss = sqM (atM xss) xss.length m := by
  refine rows_ext (by rw [sqM_len]) (fun i hi => ?_)
  rw [sqM_row hi, ← h i hi]
  exact list_fmap _
/-- one number of the rows changed -/
def setM (xss : List (List Int)) (i j : Nat) (x : Int) : List (List Int) := xss.set i ((rowL xss i).set j x)
theorem setM_len (xss : List (List Int)) (i j : Nat) (x : Int) : (setM xss i j x).length = xss.length := by simp [setM]
theorem setM_row {xss : List (List Int)} {i j k : Nat} {x : Int} (h : i < xss.length) : rowL (setM xss i j x) k = if k = i then (rowL xss i).set j x else rowL xss k := by
  simp only [setM, rowL, List.getD_eq_getElem?_getD, List.getElem?_set]
  by_cases e : i = k
  · subst e; simp [h]
  · simp [e, Ne.symm e]
theorem nth_setM {xs : List Int} {i j : Nat} {x : Int} (hi : i < xs.length) : nth (xs.set i x) j = if j = i then x else nth xs j := by
  simp only [nth, List.getD_eq_getElem?_getD, List.getElem?_set]
  by_cases h : i = j
  · subst h; simp [hi]
  · simp [h, Ne.symm h]
theorem setM_sq {f : Nat → Nat → Int} {n m i j : Nat} {x : Int} (hi : i < n) (hj : j < m) : setM (sqM f n m) i j x = sqM (fun a b => if a = i ∧ b = j then x else f a b) n m := by
  refine rows_ext (by rw [setM_len, sqM_len, sqM_len]) (fun k hk => ?_)
  rw [setM_len, sqM_len] at hk
  rw [setM_row (by rw [sqM_len]; exact hi), sqM_row hk, sqM_row hk]
  split
  · rename_i e
    subst e
    rw [sqM_row hi, list_fmap ((fmap (f k) m).set j x)]
    simp only [List.length_set, fmap_len]
    refine fmap_ext (fun b hb => ?_)
    rw [nth_setM (by rw [fmap_len]; exact hj), fmap_nth _ hb]
    by_cases e2 : b = j
    · simp [e2]
    · simp [e2]
  · rename_i e
    exact fmap_ext (fun b hb => by rw [if_neg (fun h => e h.1)])
/-- the outer row of rows that have been made -/
theorem RowsP.outer {w : World} {B n c : Nat} {a : Option Addr} {vl : List Value} {xss : List (List Int)} (h : RowsP w B (.slice a n c) vl xss) {k : Nat} (hk : k < xss.length) : ∃ g, a = some ⟨g, 0, none⟩ ∧ B ≤ g ∧ g < w.heap.size ∧ w.cell? ⟨g, k, none⟩ = some (valAt vl k) ∧ w.frozen? ⟨g, k, none⟩ = false := by
  have hl := h.o.vlen
  rcases h.o.own.2 with ⟨e, h0⟩ | ⟨g, cap3, cur, e, hb, hg, _⟩
  · omega
  · simp only [Value.slice.injEq] at e
    obtain ⟨rfl, rfl, rfl⟩ := e
    exact ⟨g, rfl, hb, (Array.getElem?_eq_some_iff.1 hg).1, by rw [World.ownsRow.cellAt h.o.own k (by omega), valAt_get (by omega)], World.ownsRow.frozenAt h.o.own k⟩
theorem own_nb {v : Value} {b : Nat} (h : ∀ c, v.ownBlock = some c → c ≠ b) : v.ownBlock = none ∨ v.ownBlock ≠ some b := by
  cases hv : v.ownBlock with
  | none => exact .inl rfl
  | some c => exact .inr (fun e => h c hv (by simpa using e))
/-- a number of the rows that may be written -/
theorem RowsP.num {w : World} {B : Nat} {v : Value} {vl : List Value} {xss : List (List Int)} (h : RowsP w B v vl xss) {i j : Nat} (hi : i < xss.length) (hj : j < (rowL xss i).length) : ∃ g c, valAt vl i = .slice (some ⟨g, 0, none⟩) (rowL xss i).length c ∧ B ≤ g ∧ g < w.heap.size ∧ w.cell? ⟨g, j, none⟩ = some (.int .i64 (atM xss i j)) ∧ w.frozen? ⟨g, j, none⟩ = false ∧
    ∀ x : Int, RowsP (w.setCell ⟨g, j, none⟩ (.int .i64 x)) B v vl (setM xss i j x) := by
  have hr := h.o.row i hi
  rcases hr.2 with ⟨e, h0⟩ | ⟨g, cap3, cur, e, hb, hg, _⟩
  · omega
  · refine ⟨g, cap3, e, hb, (Array.getElem?_eq_some_iff.1 hg).1, ?_, ?_, fun x => ?_⟩
    · have h2 := hr.form
      rw [e] at hr
      rw [World.ownsRow.cellAt hr j (by omega)]
      simp [atM, nth, hj]
    · rw [e] at hr
      exact World.ownsRow.frozenAt hr j
    · have hgr := grown_set w ⟨g, j, none⟩ (.int .i64 x)
      refine ⟨⟨?_, fun k hk => ?_, fun k hk => ?_⟩, fun a b h1 h2 => ?_⟩
      · rw [setM_len]
        refine World.ownsRow.kept h.o.own hgr (own_nb (fun c h1 h2 => ?_))
        simp only at h2
        subst h2
        exact h.o.apart i hi c (by rw [e]; rfl) h1
      · rw [setM_len] at hk
        rw [setM_row hi]
        split
        · rename_i e2
          subst e2
          rw [e] at hr ⊢
          have h3 := (World.ownsRow.stored hr j (.int .i64 x)).1
          unfold OwnI
          rw [List.length_set, List.map_set]
          exact h3
        · rename_i e2
          refine (h.o.row k hk).kept hgr (own_nb (fun c h1 h2 => ?_))
          simp only at h2
          subst h2
          have h4 : (valAt vl i).ownBlock = some c := by rw [e]; rfl
          rcases Nat.lt_or_gt_of_ne e2 with h5 | h5
          · exact h.pair k i h5 hi c h1 h4
          · exact h.pair i k h5 hk c h4 h1
      · rw [setM_len] at hk
        exact h.o.apart k hk
      · rw [setM_len] at h2
        exact h.pair a b h1 h2

def flL (xss : List (List Int)) : List (List Int) := if mxB xss then sqM (fun i j => min (atM xss i j) 1) xss.length xss.length else []
theorem sq_len {f : Nat → Nat → Int} {n : Nat} (h : n ≤ 13) : (sqM f n n).length + totS (sqM f n n) (sqM f n n).length ≤ 1048576 := by
  have : ∀ k, k ≤ n → totS (sqM f n n) k = k * n := by
    intro k
    induction k with
    | zero => intro _; simp [totS]
    | succ k ih => intro hk; rw [totS, ih (by omega), sqM_rlen (by omega), Nat.succ_mul]
  rw [sqM_len, this _ (Nat.le_refl _)]
  have := Nat.mul_le_mul h h
  omega
theorem flL_len (xss : List (List Int)) : (flL xss).length + totS (flL xss) (flL xss).length ≤ 1048576 := by
  unfold flL
  split
  · rename_i h
    have := mxB_small h
    exact sq_len (by omega)
  · simp [totS]

/-- the first k of n rows, and rows of nil behind them -/
def nTo (xss : List (List Int)) (n k : Nat) : List (List Int) := (List.range n).map fun i => if i < k then rowL xss i else []
def nVal (vl : List Value) (n k : Nat) : List Value := (List.range n).map fun i => if i < k then valAt vl i else .slice none 0 0
theorem nVal_len (vl : List Value) (n k : Nat) : (nVal vl n k).length = n := by simp [nVal]
theorem nVal_at {vl : List Value} {n k i : Nat} (h : i < n) : valAt (nVal vl n k) i = if i < k then valAt vl i else .slice none 0 0 := by simp [valAt, nVal, List.getD_eq_getElem?_getD, h]
theorem nVal_zero (vl : List Value) (n : Nat) : nVal vl n 0 = List.replicate n (.slice none 0 0) := by
  apply List.ext_getElem?
  intro i
  by_cases h : i < n <;> simp [nVal, h]
theorem nVal_step {vl : List Value} {n k : Nat} (h : k < n) : (nVal vl n k).set k (valAt vl k) = nVal vl n (k+1) := by
  apply List.ext_getElem?
  intro i
  rw [List.getElem?_set]
  by_cases e : k = i
  · subst e
    rw [if_pos rfl, if_pos (by rw [nVal_len]; exact h), valAt_get (by rw [nVal_len]; exact h), nVal_at h, if_pos (by omega)]
  · rw [if_neg e]
    by_cases hi : i < n
    · rw [valAt_get (by rw [nVal_len]; exact hi), valAt_get (by rw [nVal_len]; exact hi), nVal_at hi, nVal_at hi]
      by_cases h2 : i < k
      · rw [if_pos h2, if_pos (by omega)]
      · rw [if_neg h2, if_neg (by omega)]
    · rw [List.getElem?_eq_none (by rw [nVal_len]; omega), List.getElem?_eq_none (by rw [nVal_len]; omega)]
theorem nVal_end {vl : List Value} {n : Nat} (h : vl.length = n) : nVal vl n n = vl := by
  apply List.ext_getElem?
  intro i
  by_cases hi : i < n
  · rw [valAt_get (by rw [nVal_len]; exact hi), valAt_get (by omega), nVal_at hi, if_pos hi]
  · rw [List.getElem?_eq_none (by rw [nVal_len]; omega), List.getElem?_eq_none (by omega)]

/-- a row of m integers of which the first k are filled, f 0 .. -/
def rowF (f : Nat → Int) (m k : Nat) : List Int := fmap f k ++ List.replicate (m - k) 0
theorem rowF_len (f : Nat → Int) {m k : Nat} (h : k ≤ m) : (rowF f m k).length = m := by simp [rowF, fmap_len]; omega
theorem rowF_set (f : Nat → Int) {m k : Nat} (h : k < m) : (rowF f m k).set k (f k) = rowF f m (k+1) := by
  apply List.ext_getElem?
  intro j
  rw [List.getElem?_set]
  by_cases hj : k = j
  · subst hj
    rw [if_pos rfl, if_pos (by rw [rowF_len f (by omega)]; exact h), rowF, List.getElem?_append_left (by rw [fmap_len]; omega)]
    simp [fmap]
  · simp only [hj, if_false, rowF, List.getElem?_append, fmap_len, List.getElem?_replicate]
    by_cases h1 : j < k
    · have h2 : j < k + 1 := by omega
      simp [h1, h2, fmap]
    · have h2 : ¬ j < k + 1 := by omega
      have h3 : j - k < m - k ↔ j - (k+1) < m - (k+1) := by omega
      simp [h1, h2, h3]
theorem rowF_zero (f : Nat → Int) {m k : Nat} (h : k < m) : (rowF f m k).set k 0 = rowF f m k := by
  apply List.ext_getElem?
  intro j
  rw [List.getElem?_set]
  by_cases hj : k = j
  · subst hj
    rw [if_pos rfl, if_pos (by rw [rowF_len f (by omega)]; exact h), rowF, List.getElem?_append_right (by rw [fmap_len]; omega)]
    rw [fmap_len, Nat.sub_self, List.getElem?_replicate, if_pos (by omega)]
  · simp [hj]
theorem rowF_end (f : Nat → Int) (m : Nat) : rowF f m m = fmap f m := by simp [rowF]
theorem made_row {w1 : World} {B : Nat} {v : Value} {m : Nat} (f : Nat → Int) (h : w1.ownsRow B 3 1 v m (madeCells (Value.int .i64 0).cells (m * 1)).toList) : OwnI w1 B v (rowF f m 0) := by
  unfold OwnI
  rw [rowF_len f (Nat.zero_le _)]
  simpa [Value.cells, toList_madeCells_one, fmap, rowF] using h

theorem below_grown_none {w w' : World} {B : Nat} (h : w.grownBy w' none) (hB : B ≤ w.heap.size) : Below B w w' :=
  below_of_grown (v := .slice none 0 0) h (fun b e => by simp [Value.ownBlock] at e) hB

/-- a new row has been put into rows that have been made -/
theorem RowsP.putRow {w : World} {B : Nat} {v u : Value} {vl : List Value} {xss : List (List Int)} {r : List Int} (h : RowsP w B v vl xss) {k : Nat} (hk : k < xss.length) (hu : OwnI w B u r) (hne : ∀ c, u.ownBlock = some c → v.ownBlock ≠ some c ∧ ∀ j, j < xss.length → j ≠ k → (valAt vl j).ownBlock ≠ some c) :
    ∃ g c, v = .slice (some ⟨g, 0, none⟩) xss.length c ∧ B ≤ g ∧ g < w.heap.size ∧ (∃ z, w.cell? ⟨g, k, none⟩ = some z) ∧ w.frozen? ⟨g, k, none⟩ = false ∧ RowsP (w.setCell ⟨g, k, none⟩ u) B v (vl.set k u) (xss.set k r) := by
  have hl := h.o.vlen
  rcases h.o.own.2 with ⟨e, h0⟩ | ⟨g, cap3, cur, e, hb, hg, _⟩
  · omega
  · subst e
    have h1 := World.ownsRow.cellAt h.o.own k (by omega)
    have hgr := grown_set w ⟨g, k, none⟩ u
    have hval : ∀ j, valAt (vl.set k u) j = if j = k then u else valAt vl j := by
      intro j
      simp only [valAt, List.getD_eq_getElem?_getD, List.getElem?_set]
      by_cases e : k = j
      · subst e; simp [show k < vl.length by omega]
      · simp [e, Ne.symm e]
    have hrow : ∀ j, j < xss.length → rowL (xss.set k r) j = if j = k then r else rowL xss j := by
      intro j hj
      simp only [rowL, List.getD_eq_getElem?_getD, List.getElem?_set]
      by_cases e : k = j
      · subst e; simp [hk]
      · simp [e, Ne.symm e]
    refine ⟨g, cap3, rfl, hb, (Array.getElem?_eq_some_iff.1 hg).1, ⟨_, by rw [h1, valAt_get (by omega)]⟩, World.ownsRow.frozenAt h.o.own k, ⟨⟨?_, fun j hj => ?_, fun j hj c hc => ?_⟩, fun i j hij hj c hc => ?_⟩⟩
    · rw [List.length_set]
      exact (World.ownsRow.stored h.o.own k u).1
    · rw [List.length_set] at hj
      rw [hval, hrow j hj]
      by_cases e : j = k
      · rw [if_pos e, if_pos e]
        exact hu.kept hgr (own_nb (fun c h1 h2 => (hne c h1).1 (by rw [h2]; rfl)))
      · rw [if_neg e, if_neg e]
        exact (h.o.row j hj).kept hgr (own_nb (fun c h1 h2 => h.o.apart j hj c h1 (by rw [h2]; rfl)))
    · rw [List.length_set] at hj
      rw [hval] at hc
      by_cases e : j = k
      · rw [if_pos e] at hc; exact (hne c hc).1
      · rw [if_neg e] at hc; exact h.o.apart j hj c hc
    · rw [List.length_set] at hj
      rw [hval] at hc ⊢
      by_cases e : j = k
      · rw [if_pos e]
        rw [if_neg (by omega)] at hc
        intro h2
        exact (hne c h2).2 i (by omega) (by omega) hc
      · rw [if_neg e]
        by_cases e2 : i = k
        · rw [if_pos e2] at hc
          exact (hne c hc).2 j hj e
        · rw [if_neg e2] at hc
          exact h.pair i j hij hj c hc
theorem infoRow0 : (Try.prog.info? 26).map (fun i => (i.zero, i.size, i.bytes)) = some (some (.slice none 0 0), 1, 24) := by kernel_rfl
/-- the rows of nil that a make has made -/
theorem RowsP.made {w : World} {B n : Nat} {g : Nat} (h : w.ownsRow B 26 1 (.slice (some ⟨g, 0, none⟩) n n) n (List.replicate n (.slice none 0 0))) : RowsP w B (.slice (some ⟨g, 0, none⟩) n n) (List.replicate n (.slice none 0 0)) (List.replicate n []) := by
  have hv : ∀ k, k < n → valAt (List.replicate n (.slice none 0 0)) k = .slice none 0 0 := fun k hk => by simp [valAt, List.getD_eq_getElem?_getD, hk]
  refine ⟨⟨by rw [List.length_replicate]; exact h, fun k hk => ?_, fun k hk c hc => ?_⟩, fun j k hjk hk c hc => ?_⟩
  · rw [List.length_replicate] at hk
    rw [hv k hk]
    have : rowL (List.replicate n []) k = [] := by simp [rowL, hk]
    rw [this]
    exact OwnI.nil _ _
  · rw [List.length_replicate] at hk
    rw [hv k hk] at hc
    cases hc
  · rw [List.length_replicate] at hk
    rw [hv j (by omega)] at hc
    cases hc
/-- k rows of zeros, and rows of nil behind them -/
def zTo (n k : Nat) : List (List Int) := (List.range n).map fun i => if i < k then List.replicate n 0 else []
theorem zTo_len (n k : Nat) : (zTo n k).length = n := by simp [zTo]
theorem zTo_row {n k i : Nat} (h : i < n) : rowL (zTo n k) i = if i < k then List.replicate n 0 else [] := by simp [zTo, rowL, h]
theorem zTo_zero (n : Nat) : zTo n 0 = List.replicate n [] := by
  refine rows_ext (by simp [zTo]) (fun i hi => ?_)
  rw [zTo_len] at hi
  rw [zTo_row hi]
  simp [rowL, hi]
theorem zTo_end (n : Nat) : zTo n n = sqM (fun _ _ => 0) n n := by
  refine rows_ext (by rw [zTo_len, sqM_len]) (fun i hi => ?_)
  rw [zTo_len] at hi
  rw [zTo_row hi, sqM_row hi, if_pos hi]
  apply List.ext_getElem?
  intro j
  by_cases h : j < n <;> simp [fmap, h]
theorem zTo_step {n k : Nat} (h : k < n) : (zTo n k).set k (List.replicate n 0) = zTo n (k+1) := by
  refine rows_ext (by simp [zTo]) (fun i hi => ?_)
  rw [List.length_set, zTo_len] at hi
  rw [zTo_row hi]
  have : rowL ((zTo n k).set k (List.replicate n 0)) i = if i = k then List.replicate n 0 else rowL (zTo n k) i := by
    simp only [rowL, List.getD_eq_getElem?_getD, List.getElem?_set]
    by_cases e : k = i
    · subst e; simp [zTo_len, h]
    · simp [e, Ne.symm e]
  rw [this, zTo_row hi]
  by_cases e : i = k
  · rw [if_pos e, if_pos (by omega)]
  · rw [if_neg e]
    by_cases e2 : i < k
    · rw [if_pos e2, if_pos (by omega)]
    · rw [if_neg e2, if_neg (by omega)]
set_option maxRecDepth 100000 in
theorem zeroRows_any (n : Nat) (w : World) (hn : n ≤ 12) :
    Calls Try.prog 54 #[.int .i64 (n : Int)] w fun e w' => ∃ g vl, e = .returned (.slice (some ⟨g, 0, none⟩) n n) ∧ RowsP w' w.heap.size (.slice (some ⟨g, 0, none⟩) n n) vl (sqM (fun _ _ => 0) n n) ∧ Below w.heap.size w w' := by
  obtain ⟨i0, hi, hz0, hz1, hz2⟩ := info_parts infoInt
  obtain ⟨j0, hj0, hy0, hy1, hy2⟩ := info_parts infoRow0
  go_enter Try.func54, Try.ntmps54
  go_wp2_with (at_make; refine wpList_make_full _ rfl (.tmp 5) (.tmp 5) 22 rfl w.heap.size 26 j0 (.slice none 0 0) 1 Try.underlying22 hj0 hy0 hy1 .i64 .i64 _ _ n rfl rfl rfl rfl (by rw [hy2]; omega) (by unfold maxLen; omega) (Nat.le_refl _) ?_; intro w1 hown hgrow)
  have hb0 : Below w.heap.size w w1 := (Below.refl _ _).grown hgrow (Nat.le_refl _) (fun k h => by cases h)
  have hro : RowsP w1 w.heap.size (.slice (some ⟨w.heap.size, 0, none⟩) n n) (List.replicate n (.slice none 0 0)) (zTo n 0) := by
    rw [zTo_zero]
    exact RowsP.made (by simpa [Value.cells, toList_madeCells_one] using hown)
  clear hown hgrow
  obtain ⟨G, hG⟩ : ∃ G, G = w.heap.size := ⟨_, rfl⟩
  have HG := Lib.hid hG
  rw [← hG] at hro ⊢
  have hGG : w.heap.size ≤ G := by omega
  have hb0' : Below w.heap.size w w1 := hb0
  clear hG hb0
  have HRO := Lib.hid hro
  have hzs := (by have := hb0'.size; omega : w.heap.size ≤ w1.heap.size)
  clear hro
  go_wp2_with fail
  go_loopw [9] (fun i wr => ∃ (k : Nat) (vl : List Value), k ≤ n ∧ i = .int .i64 k ∧ RowsP wr w.heap.size (.slice (some ⟨G, 0, none⟩) n n) vl (zTo n k) ∧ Below w.heap.size w wr) (fun i _ => n - (intOf i).toNat)
  case atStart => exact ⟨0, _, Nat.zero_le _, rfl, by rw [← HG.out]; exact HRO.out, hb0'⟩
  case round =>
    obtain ⟨k, vl, hk, rfl, hro, hb⟩ := hrel
    have hbs := hb.size
    have HR := Lib.hid hro
    by_cases hlt : k < n
    · obtain ⟨W1, hW1⟩ : ∃ x : World, x = wr := ⟨_, rfl⟩
      subst hW1
      have k1 : (k : Int) < (n : Int) := by omega
      clear hro
      go_wp2_with (
        at_make
        refine wpList_make_full _ rfl (.tmp 14) (.tmp 14) 26 rfl W1.heap.size 3 i0 (.int .i64 0) 1 Try.underlying26 hi hz0 hz1 .i64 .i64 _ _ n rfl rfl rfl rfl (by rw [hz2]; omega) (by unfold maxLen; omega) (Nat.le_refl _) ?_
        intro w2 hown2 hgrow2
        have b2 : Below W1.heap.size W1 w2 := (Below.refl _ _).grown hgrow2 (Nat.le_refl _) (fun k h => by cases h)
        have o2 : OwnI w2 W1.heap.size (.slice (some ⟨W1.heap.size, 0, none⟩) n n) (List.replicate n 0) := by
          have h := made_row (fun _ => 0) hown2
          simpa [rowF, fmap] using h
        have hro2 := HR.out.below b2 (Nat.le_refl _)
        have hbk := HR.out.blk
        obtain ⟨g9, c9, e9, hg1, hg2, ⟨z9, hz9⟩, hf9, hnew⟩ := hro2.putRow (k := k) (r := List.replicate n 0) (by rw [zTo_len]; exact hlt) (o2.mono hbs) (fun c hc => by
          simp only [Value.ownBlock, Option.some.injEq] at hc
          subst hc
          exact ⟨fun h => by have := hbk.1 _ h; omega, fun j hj hne h => by have := hbk.2 j hj _ h; omega⟩)
        simp only [Value.slice.injEq, Option.some.injEq, Addr.mk.injEq, and_true] at e9
        obtain ⟨rfl, -, -⟩ := e9
        rw [zTo_step hlt] at hnew
        have HN := Lib.hid hnew
        have bw2 := hb.trans (b2.mono hbs)
        have bw3 := bw2.setCell (p := ⟨G, k, none⟩) hg1 (.slice (some ⟨W1.heap.size, 0, none⟩) n n)
        clear hown2 hgrow2 hnew o2 hro2 hbk)
      go_roundw
      case rel => exact ⟨k + 1, _, by omega, by go_num, HN.out, bw3⟩
      case measure => simp [intOf]; omega
    · obtain rfl : k = n := by omega
      rw [zTo_end] at HR
      clear hro
      go_wp2_with fail
      go_ret
      exact ⟨G, vl, rfl, HR.out, hb⟩

/-- in the first k rows the column x and the last one exchanged -/
def swF (f : Nat → Nat → Int) (d x k : Nat) (a b : Nat) : Int := if a < k then (if b = d - 1 then f a x else if b = x then f a (d - 1) else f a b) else f a b
theorem swF_step {f : Nat → Nat → Int} {d x k : Nat} {n : Nat} (hk : k < n) (hx : x < d) : setM (setM (sqM (swF f d x k) n d) k x (f k (d-1))) k (d-1) (f k x) = sqM (swF f d x (k+1)) n d := by
  rw [setM_sq hk hx, setM_sq hk (by omega)]
  refine sqM_congr (fun a ha b hb => ?_)
  rw [swF, swF]
  by_cases h1 : a = k
  · subst h1
    rw [if_pos (show a < a + 1 by omega)]
    by_cases h2 : b = d - 1
    · rw [if_pos ⟨rfl, h2⟩, if_pos h2]
    · rw [if_neg (fun h => h2 h.2), if_neg h2]
      by_cases h3 : b = x
      · rw [if_pos ⟨rfl, h3⟩, if_pos h3]
      · rw [if_neg (fun h => h3 h.2), if_neg h3, if_neg (by omega)]
  · rw [if_neg (fun h => h1 h.1), if_neg (fun h => h1 h.1)]
    by_cases h4 : a < k
    · rw [if_pos h4, if_pos (show a < k + 1 by omega)]
    · rw [if_neg h4, if_neg (show ¬ a < k + 1 by omega)]
theorem swF_zero {f : Nat → Nat → Int} {d x n m : Nat} : sqM (swF f d x 0) n m = sqM f n m := sqM_congr (fun a ha b hb => by rw [swF, if_neg (by omega)])
set_option maxRecDepth 100000 in
set_option maxHeartbeats 1000000 in
theorem swapLast_any (g c c2 B n d x m : Nat) (vl : List Value) (f : Nat → Nat → Int) (w : World) (h : RowsP w B (.slice (some ⟨g, 0, none⟩) n c) vl (sqM f n d)) (hm : m ≤ n) (hx : x < d) (hd : d ≤ 13) (hB : B ≤ w.heap.size) (hn : n ≤ 13) :
    Calls Try.prog 108 #[.slice (some ⟨g, 0, none⟩) m c2, .int .i64 (x : Int)] w fun e w' => e = .returned (.tuple #[]) ∧ RowsP w' B (.slice (some ⟨g, 0, none⟩) n c) vl (sqM (swF f d x m) n d) ∧ Below B w w' := by
  have H := Lib.hid h
  clear h
  go_enter Try.func108, Try.ntmps108
  go_wp2_with fail
  go_loopw [9] (fun i wr => ∃ k : Nat, k ≤ m ∧ i = .int .i64 k ∧ RowsP wr B (.slice (some ⟨g, 0, none⟩) n c) vl (sqM (swF f d x k) n d) ∧ Below B w wr) (fun i _ => m - (intOf i).toNat)
  case atStart => exact ⟨0, Nat.zero_le _, rfl, by rw [swF_zero]; exact H.out, Below.refl _ _⟩
  case round =>
    obtain ⟨k, hk, rfl, hro, hb⟩ := hrel
    have hbs := hb.size
    by_cases hlt : k < m
    · have k1 : (k : Int) < (m : Int) := by omega
      have hkn : k < n := by omega
      obtain ⟨g4, e4, hg4, hg5, hc4, hf4⟩ := hro.outer (k := k) (by rw [sqM_len]; exact hkn)
      simp only [Option.some.injEq, Addr.mk.injEq, and_true] at e4
      subst e4
      obtain ⟨g6, c6, e6, hg6, hg7, hc6, hf6, hnew⟩ := hro.num (i := k) (j := x) (by rw [sqM_len]; exact hkn) (by rw [sqM_rlen hkn]; exact hx)
      obtain ⟨g8, c8, e8, hg8, hg9, hc8, hf8, _⟩ := hro.num (i := k) (j := d - 1) (by rw [sqM_len]; exact hkn) (by rw [sqM_rlen hkn]; omega)
      rw [e6] at e8
      simp only [Value.slice.injEq, Option.some.injEq, Addr.mk.injEq, and_true] at e8
      obtain ⟨rfl, -, -⟩ := e8
      rw [e6, sqM_rlen hkn] at hc4
      rw [sqM_at hkn hx, show swF f d x k k x = f k x by rw [swF, if_neg (by omega)]] at hc6
      rw [sqM_at hkn (by omega), show swF f d x k k (d - 1) = f k (d - 1) by rw [swF, if_neg (by omega)]] at hc8
      have h1 := hnew (f k (d - 1))
      obtain ⟨g7, c7, e7, _, _, _, _, hnew2⟩ := h1.num (i := k) (j := d - 1) (by rw [setM_len, sqM_len]; exact hkn) (by rw [setM_row (by rw [sqM_len]; exact hkn), if_pos rfl, List.length_set, sqM_rlen hkn]; omega)
      rw [e6] at e7
      simp only [Value.slice.injEq, Option.some.injEq, Addr.mk.injEq, and_true] at e7
      obtain ⟨rfl, -, -⟩ := e7
      have h2 := hnew2 (f k x)
      rw [swF_step hkn hx] at h2
      have HN := Lib.hid h2
      have b2 := (hb.setCell (p := ⟨g6, x, none⟩) hg6 (.int .i64 (f k (d - 1)))).setCell (p := ⟨g6, d - 1, none⟩) hg6 (.int .i64 (f k x))
      have hcast : ((d : Int) - 1) = ((d - 1 : Nat) : Int) := by omega
      obtain ⟨L, hL⟩ : ∃ L, L = d - 1 := ⟨_, rfl⟩
      have hLd : L < d := by omega
      obtain ⟨P, hP⟩ : ∃ P, P = f k x := ⟨_, rfl⟩
      obtain ⟨Q, hQ⟩ : ∃ Q, Q = f k (d - 1) := ⟨_, rfl⟩
      rw [← hQ] at hc8 HN b2
      rw [← hP] at hc6 HN b2
      rw [← hL] at hcast hc8 hf8 HN b2
      clear hro hnew h1 h2 hnew2 e6 hL hP hQ
      by_cases hxL : x = L
      · subst hxL
        obtain rfl : P = Q := by
          have h9 := hc6.symm.trans hc8
          simpa using h9
        have hcx := World.cell?_setCell_same wr ⟨g6, x, none⟩ (.int .i64 P) hc6
        go_wp2_with fail
        go_region
        all_goals
          go_wp2_with fail
          go_roundw
          case rel =>
            refine ⟨k + 1, by omega, by go_num, ?_, ?_⟩
            · first
              | exact HN.out
              | exact HN.out.below (Below.refl _ _).drew (Nat.le_refl _)
            · first
              | exact b2
              | exact b2.drew
          case measure => simp [intOf]; omega
      · have hxL2 : ¬ L = x := fun h => hxL h.symm
        go_wp2_with fail
        go_region
        all_goals
          go_wp2_with fail
          go_roundw
          case rel =>
            refine ⟨k + 1, by omega, by go_num, ?_, ?_⟩
            · first
              | exact HN.out
              | exact HN.out.below (Below.refl _ _).drew (Nat.le_refl _)
            · first
              | exact b2
              | exact b2.drew
          case measure => simp [intOf]; omega
    · obtain rfl : k = m := by omega
      have HR := Lib.hid hro
      clear hro
      go_wp2_with fail
      refine bodyPost_end (v := .tuple #[]) (by simp [results, Try.results108, go_sem]) rfl ?_
      exact ⟨rfl, HR.out, hb⟩

/-- a list in order, as the library sorts it -/
def srt (xs : List Int) : List Int := xs.mergeSort fun x y => decide (x ≤ y)
theorem srt_len (xs : List Int) : (srt xs).length = xs.length := List.length_mergeSort xs
theorem srt_mem (xs : List Int) (x : Int) : x ∈ srt xs ↔ x ∈ xs := List.mem_mergeSort
theorem srt_le (xs : List Int) : (srt xs).Pairwise (· ≤ ·) := by
  have h := List.pairwise_mergeSort (le := fun (x y : Int) => decide (x ≤ y)) (fun a b c h1 h2 => by simp only [decide_eq_true_eq] at *; omega) (fun a b => by simp only [Bool.or_eq_true, decide_eq_true_eq]; omega) xs
  exact h.imp (fun h => by simpa using h)

theorem ownsRow_cut {w : World} {B g n cap m : Nat} {t : TypeId} {xs : List Value} (h : w.ownsRow B t 1 (.slice (some ⟨g, 0, none⟩) n cap) n xs) (hm : m ≤ n) : w.ownsRow B t 1 (.slice (some ⟨g, 0, none⟩) m cap) m (xs.take m) := by
  have hl := h.1
  rcases h.2 with ⟨e0, _⟩ | ⟨g', cap', cur, e0, hbase, hb, h1, h2, h3, h4⟩
  · cases e0
  · simp only [Value.slice.injEq, Option.some.injEq, Addr.mk.injEq, and_true] at e0
    obtain ⟨rfl, -, rfl⟩ := e0
    refine ⟨by rw [List.length_take]; omega, .inr ⟨g, cap, cur, rfl, hbase, hb, by omega, h2, h3, ?_⟩⟩
    rw [← h4, List.take_take]
    congr 1
    omega



def Sh_laysNm223_ren : Go.Shelf.Ren := ⟨fun | 23 => 110 | n => n, fun | 22 => 26 | 3 => 3 | 4 => 4 | 0 => 0 | n => n, fun | n => n⟩
theorem Sh_laysNm223 : Go.Proofs.Lays2.n23 Try.prog Sh_laysNm223_ren := {
  mixed := by kernel_rfl
  f23 := Try.func110.trans (congrArg some (by kernel_rfl))
  t0 := Try.underlying0
  a0 := Try.isAgg0
  z0 := Try.sizeOf0
  v0 := Try.zeroValue0
  t3 := Try.underlying3
  a3 := Try.isAgg3
  z3 := Try.sizeOf3
  v3 := Try.zeroValue3
  t4 := Try.underlying4
  a4 := Try.isAgg4
  z4 := Try.sizeOf4
  v4 := Try.zeroValue4
  t22 := Try.underlying26
  a22 := Try.isAgg26
  z22 := Try.sizeOf26
  v22 := Try.zeroValue26
  i3 := by kernel_rfl }

open Go.RowKit Go.Lib Go.Sort in
theorem Sh_slices_Delete_int (blk off cap i j : Nat) (zs : List Int) (w : World) (hH : Holds (Value.int .i64) w blk off zs.toArray) (hcap : zs.length ≤ cap) (hm : cap ≤ 9223372036854775807) (hij : i ≤ j) (hj : j ≤ zs.length) :
    Calls Try.prog 110 #[.slice (some ⟨blk, off, none⟩) zs.length cap, .int .i64 i, .int .i64 j] w fun e w' => e = .returned (.slice (some ⟨blk, off, none⟩) (zs.length - (j - i)) cap) ∧ ∃ q, w' = putRow (Value.int .i64) (Sort.ahead w q) blk off (zs.take i ++ zs.drop j ++ List.replicate (j - i) 0).toArray := Any.slices_Delete_int Sh_laysNm223 blk off cap i j zs w hH hcap hm hij hj

/-- one number less -/
theorem delOwn (a : Option Addr) (cap i : Nat) (xs : List Int) (B : Nat) (w : World) (ho : OwnI w B (.slice a xs.length cap) xs) (hi : i < xs.length) :
    Calls Try.prog 110 #[.slice a xs.length cap, .int .i64 (i : Int), .int .i64 ((i : Int) + 1)] w fun e w' => e = .returned (.slice a (xs.length - 1) cap) ∧ OwnI w' B (.slice a (xs.length - 1) cap) (xs.take i ++ xs.drop (i+1)) ∧ w.grownBy w' (Value.slice a xs.length cap).ownBlock := by
  have hcap := ho.capLe
  rcases ho.2 with ⟨e0, h0⟩ | ⟨g, cap', cur, e0, hbase, hb, h1, h2, h3, h4⟩
  · omega
  · simp only [Value.slice.injEq] at e0
    obtain ⟨rfl, -, rfl⟩ := e0
    have hh := Go.holds_of_blockI (ss := xs) hb (by simpa using h4)
    have hl : (xs.take i ++ xs.drop (i+1)).length = xs.length - 1 := by rw [List.length_append, List.length_take, List.length_drop]; omega
    refine (Sh_slices_Delete_int g 0 cap i (i+1) xs w hh hcap (by unfold maxLen at h2; omega) (by omega) hi).mono ?_
    rintro e w' ⟨rfl, nn, rfl⟩
    rw [show i + 1 - i = 1 by omega]
    have hg := Go.grownBy_sortedI (w := w) (g := g) (n := nn) (os := #[]) (xs.take i ++ xs.drop (i+1) ++ List.replicate 1 0).toArray
    have ho := Go.ownsRow_sortedI (n := nn) (os := #[]) (ss := xs) (ts := xs.take i ++ xs.drop (i+1) ++ List.replicate 1 0) (by rw [List.length_append, hl, List.length_replicate]; omega) hbase hb h1 h2 h3
    rw [Go.Sort.grow_empty] at hg ho
    refine ⟨rfl, ?_, hg⟩
    have hc := ownsRow_cut ho (show xs.length - 1 ≤ xs.length by omega)
    have e1 : ((xs.take i ++ xs.drop (i+1) ++ List.replicate 1 0).map (Value.int .i64)).take (xs.length - 1) = (xs.take i ++ xs.drop (i+1)).map (Value.int .i64) := by
      rw [← List.map_take, ← hl, List.take_left']
      rfl
    rw [e1] at hc
    unfold OwnI
    rw [hl]
    exact hc

def revV (vl : List Value) (n k : Nat) : List Value := (List.range n).map fun i => if i < k ∨ n ≤ i + k then valAt vl (n - 1 - i) else valAt vl i
theorem revV_len (vl : List Value) (n k : Nat) : (revV vl n k).length = n := by simp [revV]
theorem revV_at {vl : List Value} {n k i : Nat} (h : i < n) : valAt (revV vl n k) i = if i < k ∨ n ≤ i + k then valAt vl (n - 1 - i) else valAt vl i := by simp [valAt, revV, List.getD_eq_getElem?_getD, h]
theorem vals_ext {vl ul : List Value} (hl : vl.length = ul.length) (h : ∀ i, i < vl.length → valAt vl i = valAt ul i) : vl = ul := by
  apply List.ext_getElem?
  intro i
  by_cases hi : i < vl.length
  · rw [valAt_get hi, valAt_get (by omega), h i hi]
  · rw [List.getElem?_eq_none (by omega), List.getElem?_eq_none (by omega)]
theorem valAt_set {vl : List Value} {k j : Nat} {u : Value} (hk : k < vl.length) : valAt (vl.set k u) j = if j = k then u else valAt vl j := by
  simp only [valAt, List.getD_eq_getElem?_getD, List.getElem?_set]
  by_cases e : k = j
  · subst e; simp [hk]
  · simp [e, Ne.symm e]
theorem revV_zero {vl : List Value} : revV vl vl.length 0 = vl :=
  vals_ext (revV_len _ _ _) (fun i hi => by rw [revV_len] at hi; rw [revV_at hi, if_neg (by omega)])
theorem revV_step {vl : List Value} {n k : Nat} (h : 2 * k + 1 < n) : ((revV vl n k).set k (valAt vl (n - 1 - k))).set (n - 1 - k) (valAt vl k) = revV vl n (k+1) := by
  refine vals_ext (by simp [revV]) (fun i hi => ?_)
  rw [List.length_set, List.length_set, revV_len] at hi
  rw [valAt_set (by rw [List.length_set, revV_len]; omega), valAt_set (by rw [revV_len]; omega), revV_at hi, revV_at hi]
  by_cases e1 : i = n - 1 - k
  · rw [if_pos e1, if_pos (by omega)]
    congr 1; omega
  · rw [if_neg e1]
    by_cases e2 : i = k
    · rw [if_pos e2, if_pos (by omega), e2]
    · rw [if_neg e2]
      by_cases e3 : i < k ∨ n ≤ i + k
      · rw [if_pos e3, if_pos (by omega)]
      · rw [if_neg e3, if_neg (by omega)]
theorem revV_end {vl : List Value} {k : Nat} (h : vl.length ≤ 2 * k + 1) : revV vl vl.length k = vl.reverse := by
  refine vals_ext (by simp [revV]) (fun i hi => ?_)
  rw [revV_len] at hi
  have hr : valAt vl.reverse i = valAt vl (vl.length - 1 - i) := by
    simp [valAt, List.getD_eq_getElem?_getD, List.getElem?_reverse hi]
  rw [revV_at hi, hr]
  split
  · rfl
  · congr 1; omega
set_option maxRecDepth 100000 in
theorem revRows_any (g n c B : Nat) (vl : List Value) (w : World) (h : w.ownsRow B 26 1 (.slice (some ⟨g, 0, none⟩) n c) n vl) (hsl : ∀ i, i < n → ∃ a m c, valAt vl i = .slice a m c) (hn : n ≤ 1048576) :
    Calls Try.prog 169 #[.slice (some ⟨g, 0, none⟩) n c] w fun e w' => e = .returned (.tuple #[]) ∧ w'.ownsRow B 26 1 (.slice (some ⟨g, 0, none⟩) n c) n vl.reverse ∧ w.grownBy w' (some g) := by
  have hl : vl.length = n := by have := h.1; omega
  have H := Lib.hid h
  have HSL := Lib.hid hsl
  have HL := Lib.hid hl
  clear h hsl hl
  go_enter Try.func169, Try.ntmps169
  go_wp2_with fail
  go_loopw [2, 3] (fun i j wr => ∃ k : Nat, 2 * k ≤ n ∧ i = .int .i64 k ∧ j = .int .i64 ((n : Int) - 1 - (k : Int)) ∧ wr.ownsRow B 26 1 (.slice (some ⟨g, 0, none⟩) n c) n (revV vl n k) ∧ w.grownBy wr (some g)) (fun i _ _ => n - (intOf i).toNat)
  case atStart => exact ⟨0, by omega, rfl, by simp, by have h := H.out; rw [← revV_zero (vl := vl), HL.out] at h; exact h, World.grownBy.refl _ _⟩
  case round =>
    obtain ⟨k, hk, rfl, rfl, hown, hg⟩ := hrel
    by_cases hlt : 2 * k + 1 < n
    · have k1 : (k : Int) < (n : Int) - 1 - (k : Int) := by omega
      have hcast : ((n : Int) - 1 - (k : Int)) = ((n - 1 - k : Nat) : Int) := by omega
      have e1 : valAt (revV vl n k) k = valAt vl k := by rw [revV_at (by omega), if_neg (by omega)]
      have e2 : valAt (revV vl n k) (n - 1 - k) = valAt vl (n - 1 - k) := by rw [revV_at (by omega), if_neg (by omega)]
      obtain ⟨a1, m1, c1, h1⟩ := HSL.out k (by omega)
      obtain ⟨a2, m2, c2, h2⟩ := HSL.out (n - 1 - k) (by omega)
      have hc1 := World.ownsRow.cellAt hown k (by omega)
      have hc2 := World.ownsRow.cellAt hown (n - 1 - k) (by omega)
      rw [valAt_get (by rw [revV_len]; omega), e1, h1] at hc1
      rw [valAt_get (by rw [revV_len]; omega), e2, h2] at hc2
      have hf1 := World.ownsRow.frozenAt hown k
      have hf2 := World.ownsRow.frozenAt hown (n - 1 - k)
      have hs1 := World.ownsRow.stored hown k (valAt vl (n - 1 - k))
      have hs2 := World.ownsRow.stored hs1.1 (n - 1 - k) (valAt vl k)
      have hkn : k < n := by omega
      have hkn2 : n - 1 - k < n := by omega
      have hne : k ≠ n - 1 - k := by omega
      rw [revV_step hlt, h1, h2] at hs2
      have HS := Lib.hid hs2
      have hzg := (World.ownsRow.lt hown g rfl).2
      rw [hcast] at k1 ⊢
      obtain ⟨J, hJ⟩ : ∃ J, J = n - 1 - k := ⟨_, rfl⟩
      have HJ := Lib.hid hJ
      have hJc : ((J : Int)) - 1 = ((n : Int) - 1 - ((k : Int) + 1)) := by omega
      rw [← hJ] at k1 hc2 hf2 HS hkn2 hne ⊢
      clear hs1 hs2 h1 h2 e1 e2 hJ hcast hlt
      go_wp2_with fail
      go_region
      all_goals
        go_wp2_with fail
        go_roundw
        case rel =>
          refine ⟨k + 1, by omega, by go_num, by first | exact val_int hJc | rfl | (rw [← hJc]; go_num), ?_, ?_⟩
          · first
            | exact HS.out.1
            | exact ownsRow_bel HS.out.1 (Below.refl _ _).drew (Nat.le_refl _)
          · have h9 := grown_trans hg ((grown_set wr ⟨g, k, none⟩ (.slice a2 m2 c2)))
            have h8 := grown_trans h9 (grown_set _ ⟨g, J, none⟩ (.slice a1 m1 c1))
            first
            | exact h8
            | exact grown_trans h8 (below_grown (Below.refl _ _).drew (Nat.le_refl _) _)
        case measure => simp [intOf]; omega
    · have k1 : ¬ (k : Int) < (n : Int) - 1 - (k : Int) := by omega
      rw [← HL.out, revV_end (by have := HL.out; omega), HL.out] at hown
      have HO := Lib.hid hown
      clear hown
      go_wp2_with fail
      refine bodyPost_end (v := .tuple #[]) (by simp [results, Try.results169, go_sem]) rfl ?_
      exact ⟨rfl, HO.out, hg⟩

theorem ownsRow_cells {B g n c : Nat} {t : TypeId} : ∀ {vs : List Value} {o : Nat} {w : World} {xs : List Value}, o + vs.length ≤ n → w.ownsRow B t 1 (.slice (some ⟨g, 0, none⟩) n c) n xs → (w.setCells g o vs).ownsRow B t 1 (.slice (some ⟨g, 0, none⟩) n c) n (xs.take o ++ vs ++ xs.drop (o + vs.length)) ∧ w.grownBy (w.setCells g o vs) (some g)
  | [], o, w, xs, _, h => by
    refine ⟨?_, World.grownBy.refl _ _⟩
    rw [List.append_nil, List.length_nil, Nat.add_zero, List.take_append_drop]
    exact h
  | v :: vs, o, w, xs, hl, h => by
    have hxl : xs.length = n := by have := h.1; omega
    rw [List.length_cons] at hl
    have h1 := World.ownsRow.stored h o v
    have ⟨h2, h3⟩ := ownsRow_cells (vs := vs) (o := o + 1) (by omega) h1.1
    refine ⟨?_, grown_trans h1.2 h3⟩
    have e : (xs.set o v).take (o+1) ++ vs ++ (xs.set o v).drop (o + 1 + vs.length) = xs.take o ++ (v :: vs) ++ xs.drop (o + (v :: vs).length) := by
      have e1 : (xs.set o v).take (o+1) = xs.take o ++ [v] := by
        rw [List.take_succ_eq_append_getElem (by rw [List.length_set]; omega), List.getElem_set_self, List.take_set_of_le (Nat.le_refl o)]
      have e2 : (xs.set o v).drop (o + 1 + vs.length) = xs.drop (o + (v :: vs).length) := by
        rw [List.length_cons, List.drop_set_of_lt (by omega), show o + 1 + vs.length = o + (vs.length + 1) by omega]
      rw [e1, e2]
      simp
    rw [e] at h2
    exact h2
set_option maxRecDepth 100000 in
set_option maxHeartbeats 1000000 in
/-- one row less, in place -/
theorem delRows_any (g n c B i : Nat) (vl : List Value) (w : World) (h : w.ownsRow B 26 1 (.slice (some ⟨g, 0, none⟩) n c) n vl) (hsl : ∀ i, i < n → ∃ a m c, valAt vl i = .slice a m c) (hi : i < n) (hnc : n ≤ c) (hc63 : c ≤ 1048576) :
    Calls Try.prog 109 #[.slice (some ⟨g, 0, none⟩) n c, .int .i64 (i : Int), .int .i64 ((i : Int) + 1)] w fun e w' => e = .returned (.slice (some ⟨g, 0, none⟩) (n - 1) c) ∧ w'.ownsRow B 26 1 (.slice (some ⟨g, 0, none⟩) (n - 1) c) (n - 1) (vl.take i ++ vl.drop (i+1)) ∧ w.grownBy w' (some g) := by
  obtain ⟨j0, hj0, hy0, hy1, hy2⟩ := info_parts infoRow0
  have hl : vl.length = n := by have := h.1; omega
  obtain ⟨J, hJ⟩ : ∃ J, J = i + 1 := ⟨_, rfl⟩
  have hcast : ((i : Int) + 1) = (J : Int) := by omega
  have hne : ¬ i = J := by omega
  obtain ⟨news, hnews⟩ : ∃ news, news = vl.drop J := ⟨_, rfl⟩
  have hlen : news.length = n - J := by rw [hnews, List.length_drop]; omega
  have hdr : w.drew.ownsRow B 26 1 (.slice (some ⟨g, 0, none⟩) n c) n vl := ownsRow_bel h (Below.refl _ _).drew (Nat.le_refl _)
  have hat : ∀ t, t < n → w.drew.cell? ⟨g, t, none⟩ = some (valAt vl t) := fun t ht => by rw [World.ownsRow.cellAt hdr t (by omega), valAt_get (by omega)]
  obtain ⟨A, hA, hsrc⟩ : ∃ A : Addr, (if c = J then some (⟨g, 0, none⟩ : Addr) else some ⟨g, J, none⟩) = some A ∧ Hid (∀ t u, news[t]? = some u → w.drew.cell? (A.add t) = some u) := by
    by_cases h9 : c = J
    · refine ⟨⟨g, 0, none⟩, by simp [h9], fun t u hu => ?_⟩
      have := (List.getElem?_eq_some_iff.1 hu).1
      omega
    · refine ⟨⟨g, J, none⟩, by simp [h9], fun t u hu => ?_⟩
      have ht := (List.getElem?_eq_some_iff.1 hu).1
      rw [hnews, List.getElem?_drop, valAt_get (by omega)] at hu
      rw [Addr.add_lit, hat _ (by omega)]
      exact hu
  have s1 : Hid (news.length = (n - J) * 1) := by rw [Hid, Nat.mul_one]; exact hlen
  have s2 : Hid (∀ u ∈ news, u.oneCell' = true) := by
    intro u hu
    obtain ⟨t, ht, rfl⟩ := List.mem_iff_getElem.1 hu
    have e : news[t]? = some news[t] := List.getElem?_eq_getElem ht
    generalize news[t] = u at e ⊢
    rw [hnews, List.getElem?_drop, valAt_get (by omega)] at e
    obtain ⟨a5, m5, c5, e5⟩ := hsl (J + t) (by omega)
    rw [e5] at e
    simp only [Option.some.injEq] at e
    rw [← e]; rfl
  have s3 : Hid (∀ t, t < news.length → (w.drew.cell? ⟨g, 0 + i * 1 + t, none⟩).isSome = true ∧ w.drew.frozen? ⟨g, 0 + i * 1 + t, none⟩ = false) := by
    intro t ht
    rw [Nat.mul_one, Nat.zero_add]
    exact ⟨by rw [hat _ (by omega)]; rfl, World.ownsRow.frozenAt hdr (i + t)⟩
  obtain ⟨W1, hW1⟩ : ∃ W1, W1 = w.drew.setCells g (0 + i * 1) news := ⟨_, rfl⟩
  have hW : Hid (W1 = w.drew.setCells g (0 + i * 1) news) := hW1
  have ⟨o1, g1⟩ := ownsRow_cells (vs := news) (o := 0 + i * 1) (by omega) hdr
  rw [← hW1] at o1 g1
  rw [show 0 + i * 1 = i by omega] at o1
  have hcl : ∀ ty, (Builtin.clear_ #[22] ty #[.slice (some ⟨g, n - 1, none⟩) (n - (n - 1)) (c - (n - 1))]).run Try.prog W1 = .ok (.tuple #[]) (W1.setCells g (n - 1) (List.replicate 1 (.slice none 0 0))) := fun ty => by
    rw [show n - (n - 1) = 1 by omega]
    exact Lib.run_clear_slice W1 _ _ ty _ Try.underlying22 Try.zeroValue26 rfl rfl g (n - 1) 1 _ (by omega) (fun t ht => by
      obtain rfl : t = 0 := by omega
      rw [Nat.add_zero, World.ownsRow.cellAt o1 (n - 1) (by omega), List.getElem?_eq_getElem (by have := o1.1; omega)]; rfl) (fun t ht => by
      obtain rfl : t = 0 := by omega
      exact World.ownsRow.frozenAt o1 (n - 1))
  have ⟨o2, g2⟩ := ownsRow_cells (vs := List.replicate 1 (Value.slice none 0 0)) (o := n - 1) (by rw [List.length_replicate]; omega) o1
  have o3 := ownsRow_cut o2 (show n - 1 ≤ n by omega)
  have hfin : Hid ((W1.setCells g (n - 1) (List.replicate 1 (Value.slice none 0 0))).ownsRow B 26 1 (.slice (some ⟨g, 0, none⟩) (n - 1) c) (n - 1) (vl.take i ++ vl.drop J) ∧ w.grownBy (W1.setCells g (n - 1) (List.replicate 1 (Value.slice none 0 0))) (some g)) := by
    refine ⟨?_, grown_trans (grown_trans (below_grown (Below.refl _ _).drew (Nat.le_refl _) _) g1) g2⟩
    have e : ((vl.take i ++ news ++ vl.drop (i + news.length)).take (n - 1) ++ List.replicate 1 (Value.slice none 0 0) ++ (vl.take i ++ news ++ vl.drop (i + news.length)).drop (n - 1 + (List.replicate 1 (Value.slice none 0 0)).length)).take (n - 1) = vl.take i ++ vl.drop J := by
      have h5 : (vl.take i ++ news).length = n - 1 := by rw [List.length_append, List.length_take, hlen]; omega
      have h6 : (vl.take i ++ news ++ vl.drop (i + news.length)).take (n - 1) = vl.take i ++ news := by rw [← h5, List.take_left']; rfl
      rw [h6, List.append_assoc, ← h5, List.take_left' rfl, hnews]
    rw [e] at o3
    exact o3
  have hic : i ≤ c := by omega
  have hic1 : J ≤ c := by omega
  have hin : J ≤ n := by omega
  have hij : i ≤ J := by omega
  have hii : i < J := by omega
  have hnn : i + (n - J) = n - 1 := by omega
  have HJ := Lib.hid hJ
  rw [hcast, ← hJ]
  clear hJ hW1 hnews hdr hat o1 g1 o2 g2 o3 hcast h hsl hl
  go_enter Try.func109, Try.ntmps109
  go_wp2_with fail
  go_region_law (refine step_append_room rfl (.tmp 22) (.tmp 25) 22 rfl 26 j0 1 Try.underlying22 hj0 hy1 g 0 i c (by simp [Act.eval, Act.put]) A (n - J) (c - J) news (by simp [Act.eval, Act.put]) s1.out hsrc.out s2.out (by omega) s3.out ?_; rw [← hW.out])
  all_goals
    have hle : n - 1 ≤ n := by omega
    have hlc : n - 1 ≤ c := by omega
    go_wp2_with fail
    go_ret
    exact ⟨rfl, hfin.out.1, hfin.out.2⟩

def skp (x a : Nat) : Nat := if a < x then a else a + 1
theorem RowsP.swapRow {w w2 : World} {B : Nat} {v u : Value} {vl : List Value} {xss : List (List Int)} {r : List Int} (h : RowsP w B v vl xss) {k : Nat} (hk : k < xss.length) (hg : w.grownBy w2 (valAt vl k).ownBlock) (hu : OwnI w2 B u r) (hub : u.ownBlock = (valAt vl k).ownBlock) :
    ∃ g c, v = .slice (some ⟨g, 0, none⟩) xss.length c ∧ B ≤ g ∧ g < w2.heap.size ∧ (∃ z, w2.cell? ⟨g, k, none⟩ = some z) ∧ w2.frozen? ⟨g, k, none⟩ = false ∧ RowsP (w2.setCell ⟨g, k, none⟩ u) B v (vl.set k u) (xss.set k r) := by
  have hl := h.o.vlen
  have hout : w2.ownsRow B 26 1 v xss.length vl := World.ownsRow.kept h.o.own hg (own_ne (fun c h1 h2 => h.o.apart k hk c h2 h1))
  rcases h.o.own.2 with ⟨e, h0⟩ | ⟨g, cap3, cur, e, hb, hgg, _⟩
  · omega
  · subst e
    have h1 := World.ownsRow.cellAt hout k (by omega)
    have hgr := grown_set w2 ⟨g, k, none⟩ u
    have hval : ∀ j, valAt (vl.set k u) j = if j = k then u else valAt vl j := fun j => valAt_set (by omega)
    have hrow : ∀ j, j < xss.length → rowL (xss.set k r) j = if j = k then r else rowL xss j := by
      intro j hj
      simp only [rowL, List.getD_eq_getElem?_getD, List.getElem?_set]
      by_cases e : k = j
      · subst e; simp [hk]
      · simp [e, Ne.symm e]
    refine ⟨g, cap3, rfl, hb, (World.ownsRow.lt hout g rfl).2, ⟨_, by rw [h1, valAt_get (by omega)]⟩, World.ownsRow.frozenAt hout k, ⟨⟨?_, fun j hj => ?_, fun j hj c hc => ?_⟩, fun i j hij hj c hc => ?_⟩⟩
    · rw [List.length_set]
      exact (World.ownsRow.stored hout k u).1
    · rw [List.length_set] at hj
      rw [hval, hrow j hj]
      by_cases e : j = k
      · rw [if_pos e, if_pos e]
        exact hu.kept hgr (own_nb (fun c h1 h2 => h.o.apart k hk c (by rw [← hub]; exact h1) (by rw [h2]; rfl)))
      · rw [if_neg e, if_neg e]
        have h3 : OwnI w2 B (valAt vl j) (rowL xss j) := (h.o.row j hj).kept hg (own_ne (fun c h4 h5 => by
          rcases Nat.lt_or_gt_of_ne e with h6 | h6
          · exact h.pair j k h6 hk c h4 h5
          · exact h.pair k j h6 hj c h5 h4))
        exact h3.kept hgr (own_nb (fun c h1 h2 => h.o.apart j hj c h1 (by rw [h2]; rfl)))
    · rw [List.length_set] at hj
      rw [hval] at hc
      by_cases e : j = k
      · rw [if_pos e, hub] at hc; exact h.o.apart k hk c hc
      · rw [if_neg e] at hc; exact h.o.apart j hj c hc
    · rw [List.length_set] at hj
      rw [hval] at hc ⊢
      by_cases e : j = k
      · rw [if_pos e, hub]
        rw [if_neg (by omega)] at hc
        exact h.pair i k (by omega) hk c hc
      · rw [if_neg e]
        by_cases e2 : i = k
        · rw [if_pos e2, hub] at hc
          exact h.pair k j (by omega) hj c hc
        · rw [if_neg e2] at hc
          exact h.pair i j hij hj c hc
/-- one row less -/
theorem RowsP.del {w w' : World} {B g n c i : Nat} {vl : List Value} {f : Nat → Nat → Int} {m : Nat} (h : RowsP w B (.slice (some ⟨g, 0, none⟩) n c) vl (sqM f n m)) (hi : i < n) (ho : w'.ownsRow B 26 1 (.slice (some ⟨g, 0, none⟩) (n - 1) c) (n - 1) (vl.take i ++ vl.drop (i+1))) (hg : w.grownBy w' (some g)) :
    RowsP w' B (.slice (some ⟨g, 0, none⟩) (n - 1) c) (vl.take i ++ vl.drop (i+1)) (sqM (fun a b => f (skp i a) b) (n - 1) m) := by
  have hl := h.o.vlen
  rw [sqM_len] at hl
  have hv : ∀ k, k < n - 1 → valAt (vl.take i ++ vl.drop (i+1)) k = valAt vl (skp i k) := fun k hk => by
    rw [valAt, List.getD_eq_getElem?_getD, skp]
    by_cases e : k < i
    · rw [if_pos e, List.getElem?_append_left (by rw [List.length_take]; omega), List.getElem?_take, if_pos e, valAt, List.getD_eq_getElem?_getD]
    · rw [if_neg e, List.getElem?_append_right (by rw [List.length_take]; omega), List.getElem?_drop, List.length_take, valAt, List.getD_eq_getElem?_getD]
      congr 2
      omega
  have hs : ∀ k, k < n - 1 → skp i k < n := fun k hk => by rw [skp]; split <;> omega
  have hm : ∀ j k, j < k → skp i j < skp i k := fun j k hjk => by rw [skp, skp]; split <;> split <;> omega
  refine ⟨⟨by rw [sqM_len]; exact ho, fun k hk => ?_, fun k hk c hc => ?_⟩, fun j k hjk hk c hc => ?_⟩
  · rw [sqM_len] at hk
    rw [hv k hk, sqM_row hk]
    have h1 := h.o.row (skp i k) (by rw [sqM_len]; exact hs k hk)
    rw [sqM_row (hs k hk)] at h1
    exact h1.kept hg (own_nb (fun c h2 h3 => h.o.apart _ (by rw [sqM_len]; exact hs k hk) c h2 (by rw [h3]; rfl)))
  · rw [sqM_len] at hk
    rw [hv k hk] at hc
    exact h.o.apart _ (by rw [sqM_len]; exact hs k hk) c hc
  · rw [sqM_len] at hk
    rw [hv j (by omega)] at hc
    rw [hv k hk]
    exact h.pair _ _ (hm j k hjk) (by rw [sqM_len]; exact hs k hk) c hc
/-- the rows while a column is taken out, the first k being done -/
def tkM (f : Nat → Nat → Int) (n x k : Nat) : List (List Int) := (List.range (n-1)).map fun a => if a < k then fmap (fun b => f a (skp x b)) (n - 1) else fmap (f a) n
theorem tkM_len (f : Nat → Nat → Int) (n x k : Nat) : (tkM f n x k).length = n - 1 := by simp [tkM]
theorem tkM_row {f : Nat → Nat → Int} {n x k a : Nat} (h : a < n - 1) : rowL (tkM f n x k) a = if a < k then fmap (fun b => f a (skp x b)) (n - 1) else fmap (f a) n := by simp [tkM, rowL, h]
theorem tkM_zero {f : Nat → Nat → Int} {n x : Nat} : tkM f n x 0 = sqM f (n - 1) n := by
  refine rows_ext (by rw [tkM_len, sqM_len]) (fun i hi => ?_)
  rw [tkM_len] at hi
  rw [tkM_row hi, sqM_row hi, if_neg (by omega)]
theorem tkM_end {f : Nat → Nat → Int} {n x : Nat} : tkM f n x (n-1) = sqM (fun a b => f a (skp x b)) (n - 1) (n - 1) := by
  refine rows_ext (by rw [tkM_len, sqM_len]) (fun i hi => ?_)
  rw [tkM_len] at hi
  rw [tkM_row hi, sqM_row hi, if_pos hi]
theorem fmap_del {f : Nat → Int} {n x : Nat} (hx : x < n) : (fmap f n).take x ++ (fmap f n).drop (x+1) = fmap (fun b => f (skp x b)) (n - 1) := by
  apply List.ext_getElem?
  intro i
  have hl := fmap_len f n
  by_cases hi : i < n - 1
  · have e : (fmap (fun b => f (skp x b)) (n - 1))[i]? = some (f (skp x i)) := by simp [fmap, hi]
    rw [e, skp]
    by_cases h : i < x
    · rw [List.getElem?_append_left (by rw [List.length_take]; omega), List.getElem?_take, if_pos h, if_pos h]
      simp [fmap, show i < n by omega]
    · rw [List.getElem?_append_right (by rw [List.length_take]; omega), List.getElem?_drop, List.length_take, if_neg h, hl, show x + 1 + (i - min x n) = i + 1 by omega]
      simp [fmap, show i + 1 < n by omega]
  · rw [List.getElem?_eq_none (by rw [List.length_append, List.length_take, List.length_drop, hl]; omega), List.getElem?_eq_none (by rw [fmap_len]; omega)]
theorem tkM_step {f : Nat → Nat → Int} {n x k : Nat} (hk : k < n - 1) (hx : x < n) : (tkM f n x k).set k ((rowL (tkM f n x k) k).take x ++ (rowL (tkM f n x k) k).drop (x+1)) = tkM f n x (k+1) := by
  refine rows_ext (by rw [List.length_set, tkM_len, tkM_len]) (fun i hi => ?_)
  rw [List.length_set, tkM_len] at hi
  have : ∀ r, rowL ((tkM f n x k).set k r) i = if i = k then r else rowL (tkM f n x k) i := by
    intro r
    simp only [rowL, List.getD_eq_getElem?_getD, List.getElem?_set]
    by_cases e : k = i
    · subst e; simp [tkM_len, hk]
    · simp [e, Ne.symm e]
  rw [this, tkM_row hi, tkM_row hk, if_neg (Nat.lt_irrefl k), fmap_del hx]
  by_cases e : i = k
  · subst e
    rw [if_pos rfl, tkM_row hi, if_pos (by omega)]
  · rw [if_neg e, tkM_row hi]
    by_cases h : i < k
    · rw [if_pos h, if_pos (by omega)]
    · rw [if_neg h, if_neg (by omega)]
/-- what is left when the row and the column x have been taken out -/
def shF (f : Nat → Nat → Int) (d x : Nat) (a b : Nat) : Int := swF f d x x (skp x a) (skp x b)

/-- the number in the last column of the row x made less by 1 -/
def decF (f : Nat → Nat → Int) (d x : Nat) (a b : Nat) : Int := if a = x ∧ b = d - 1 then f x (d - 1) - 1 else f a b
theorem shF_dec {f : Nat → Nat → Int} {d x : Nat} : sqM (shF (decF f d x) d x) (d - 1) (d - 1) = sqM (shF f d x) (d - 1) (d - 1) := by
  refine sqM_congr (fun a ha b hb => ?_)
  have hne : skp x a ≠ x := by rw [skp]; split <;> omega
  have e : ∀ q, decF f d x (skp x a) q = f (skp x a) q := fun q => by rw [decF, if_neg (fun h => hne h.1)]
  rw [shF, shF, swF, swF, e, e, e]
/-- a matrix before it was grown -/
def shL (xss : List (List Int)) : List (List Int) := if topB xss then (if totR (rowL xss (topN xss)) = 1 then sqM (shF (atM xss) xss.length (topN xss)) (xss.length - 1) (xss.length - 1) else sqM (decF (atM xss) xss.length (topN xss)) xss.length xss.length) else []
theorem topB_mx {xss : List (List Int)} (h : topB xss = true) : mxB xss = true ∧ 0 < xss.length := by
  simp only [topB, Bool.and_eq_true, decide_eq_true_eq] at h
  exact ⟨h.1, by omega⟩
theorem shL_len (xss : List (List Int)) : (shL xss).length + totS (shL xss) (shL xss).length ≤ 1048576 := by
  unfold shL
  split
  · rename_i h
    have := mxB_small (topB_mx h).1
    split
    · exact sq_len (by omega)
    · exact sq_len (by omega)
  · simp [totS]

def rowG (xss : List (List Int)) (i : Nat) : Prop := (rowL xss i).length = xss.length ∧ allB (rowL xss i) 0 12 = true ∧ mostTo (rowL xss i) (rowL xss i).length ≠ 0 ∧ ∀ j, j < i → atM xss i j = 0
theorem rowG_of {xss : List (List Int)} (h : mxB xss = true) {i : Nat} (hi : i < xss.length) : rowG xss i := by
  have ⟨h1, h2, h3⟩ := mxB_iff.1 h
  have h4 := upB_iff.1 h2 i hi
  have h5 : ∀ j, j < (rowL xss i).length → 0 ≤ nth (rowL xss i) j ∧ nth (rowL xss i) j ≤ 12 := fun j hj => adB_num h1 hi hj
  refine ⟨h4.1, ?_, (most_pos (by omega) (fun j hj => (h5 j hj).1)).2 (adB_row h1 hi).1, h4.2⟩
  simp only [allB, List.all_eq_true]
  intro x hx
  obtain ⟨j, hj, rfl⟩ := List.mem_iff_getElem.1 hx
  rw [← nth_get _ _ hj]
  exact inB_iff.2 (h5 j hj)
def colG (xss : List (List Int)) (j : Nat) : Prop := mostTo (colL xss j) xss.length ≠ 0
theorem colG_of {xss : List (List Int)} (h : mxB xss = true) {j : Nat} (hj : j < xss.length) : colG xss j := by
  have ⟨h1, h2, h3⟩ := mxB_iff.1 h
  have h4 := adB_row h3 (k := j) (by rw [colsL_len]; exact hj)
  rw [colsL_row hj] at h4
  have h6 := (most_pos (l := colL xss j) (by rw [colL_len]; omega) (fun i hi => by rw [colL_len] at hi; rw [colL_nth j hi]; exact (mxB_num h hi hj).1)).2 h4.1
  rw [colL_len] at h6
  exact h6
/-- the sums of all numbers of a square, row by row and column by column -/
def sqS (f : Nat → Nat → Int) (n : Nat) : Nat → Int
  | 0 => 0
  | i+1 => sqS f n i + totI (fmap (fun j => f i j) n) n
theorem totI_fmap {f : Nat → Int} {n : Nat} : ∀ {k : Nat}, k ≤ n → totI (fmap f n) k = totI (fmap f k) k
  | 0, _ => rfl
  | k+1, h => by
    rw [totI, totI, fmap_nth _ (show k < n by omega), fmap_nth _ (show k < k + 1 by omega), totI_fmap (f := f) (n := n) (k := k) (by omega), totI_fmap (f := f) (n := k + 1) (k := k) (by omega)]
theorem totI_congr {xs ys : List Int} : ∀ {k : Nat}, (∀ j, j < k → nth xs j = nth ys j) → totI xs k = totI ys k
  | 0, _ => rfl
  | k+1, h => by rw [totI, totI, totI_congr (fun j hj => h j (by omega)), h k (by omega)]
theorem totI_add {f g : Nat → Int} : ∀ {k : Nat}, totI (fmap (fun j => f j + g j) k) k = totI (fmap f k) k + totI (fmap g k) k
  | 0 => rfl
  | k+1 => by
    rw [totI, totI, totI, fmap_nth _ (show k < k + 1 by omega), fmap_nth _ (show k < k + 1 by omega), fmap_nth _ (show k < k + 1 by omega), totI_fmap (f := fun j => f j + g j) (n := k + 1) (k := k) (by omega), totI_fmap (f := f) (n := k + 1) (k := k) (by omega), totI_fmap (f := g) (n := k + 1) (k := k) (by omega), totI_add (f := f) (g := g) (k := k)]
    omega
theorem sqS_turn {f : Nat → Nat → Int} {n : Nat} : ∀ {m : Nat}, sqS f n m = sqS (fun i j => f j i) m n
  | 0 => by
    have : ∀ k, sqS (fun i j => f j i) 0 k = 0 := by
      intro k
      induction k with
      | zero => rfl
      | succ k ih => rw [sqS, ih]; rfl
    rw [this]; rfl
  | m+1 => by
    rw [sqS, sqS_turn (f := f) (n := n) (m := m)]
    have : ∀ k, sqS (fun i j => f j i) (m + 1) k = sqS (fun i j => f j i) m k + totI (fmap (fun j => f m j) k) k := by
      intro k
      induction k with
      | zero => rfl
      | succ k ih =>
        rw [sqS, sqS, ih, totI, totI, fmap_nth _ (show m < m + 1 by omega), fmap_nth _ (show k < k + 1 by omega), totI_fmap (f := fun j => f j k) (n := m + 1) (k := m) (by omega), totI_fmap (f := fun j => f m j) (n := k + 1) (k := k) (by omega)]
        omega
    rw [this]
theorem matS_sq {xss : List (List Int)} {n : Nat} : ∀ {k : Nat}, (∀ i, i < k → (rowL xss i).length = n) → matS xss k = sqS (atM xss) n k
  | 0, _ => rfl
  | k+1, h => by
    rw [matS, sqS, matS_sq (fun i hi => h i (by omega)), totR, h k (by omega)]
    congr 1
    exact totI_congr (fun j hj => by rw [fmap_nth _ hj]; rfl)
theorem matS_cols {xss : List (List Int)} (hl : ∀ i, i < xss.length → (rowL xss i).length = xss.length) : matS (colsL xss) (colsL xss).length = matS xss xss.length := by
  rw [colsL_len, matS_sq (n := xss.length) (fun i hi => by rw [colsL_row hi, colL_len]), matS_sq hl, sqS_turn (f := atM xss)]
  have : ∀ k, k ≤ xss.length → sqS (atM (colsL xss)) xss.length k = sqS (fun i j => atM xss j i) xss.length k := by
    intro k
    induction k with
    | zero => intro _; rfl
    | succ k ih =>
      intro hk
      rw [sqS, sqS, ih (by omega)]
      congr 1
      exact totI_congr (fun j hj => by rw [fmap_nth _ hj, fmap_nth _ hj, atM, colsL_row (show k < xss.length by omega), colL_nth k hj])
  exact this _ (Nat.le_refl _)
theorem mx_of {xss : List (List Int)} (hr : ∀ i, i < xss.length → rowG xss i) (hc : ∀ j, j < xss.length → colG xss j) : mxB xss = decide (matS xss xss.length ≤ 12) := by
  rw [Bool.eq_iff_iff, mxB_iff, decide_eq_true_eq]
  refine ⟨fun h => (adB_iff.1 h.1).2, fun h => ?_⟩
  have h5 : ∀ i, i < xss.length → ∀ j, j < (rowL xss i).length → 0 ≤ nth (rowL xss i) j := fun i hi j hj => (allB_nth (hr i hi).2.1 hj).1
  refine ⟨adB_iff.2 ⟨fun k hk => ⟨h5 k hk, (most_pos (by rw [(hr k hk).1]; omega) (h5 k hk)).1 (hr k hk).2.2.1⟩, h⟩, upB_iff.2 (fun i hi => ⟨(hr i hi).1, (hr i hi).2.2.2⟩), adB_iff.2 ⟨fun j hj => ?_, by rw [matS_cols (fun i hi => (hr i hi).1)]; exact h⟩⟩
  rw [colsL_len] at hj
  rw [colsL_row hj]
  have h6 : ∀ i, i < (colL xss j).length → 0 ≤ nth (colL xss j) i := fun i hi => by
    rw [colL_len] at hi
    rw [colL_nth j hi]
    exact h5 i hi j (by rw [(hr i hi).1]; exact hj)
  refine ⟨h6, (most_pos (by rw [colL_len]; omega) h6).1 ?_⟩
  rw [colL_len]
  exact hc j hj

/-- a row of the matrix before the column x is taken out -/
def rowU (f : Nat → Nat → Int) (d x i q : Nat) : Int := if (i < x ∧ x < d - 1) ∧ q = d - 1 then f i x else f i q
theorem shF_row {f : Nat → Nat → Int} {d x i j : Nat} (hj : skp x j = i) : fmap (fun b => rowU f d x i (skp x b)) (d - 1) = fmap (shF f d x j) (d - 1) :=
  fmap_ext (fun b hb => by
    have h1 : skp x b ≠ x := by rw [skp]; split <;> omega
    have h2 : skp x b = d - 1 → x < d - 1 := fun h => by rw [skp] at h; split at h <;> omega
    rw [shF, hj, rowU, swF]
    by_cases h3 : i < x
    · rw [if_pos h3]
      by_cases h4 : skp x b = d - 1
      · rw [if_pos ⟨⟨h3, h2 h4⟩, h4⟩, if_pos h4]
      · rw [if_neg (fun h => h4 h.2), if_neg h4, if_neg h1]
    · rw [if_neg (fun h => h3 h.1.1), if_neg h3])

theorem colsL_sq (xss : List (List Int)) : colsL xss = sqM (fun a b => atM xss b a) xss.length xss.length := rfl

theorem totR_sum (xs : List Int) : totR xs = xs.sum := by
  have : ∀ k, k ≤ xs.length → totI xs k = (xs.take k).sum := by
    intro k
    induction k with
    | zero => intro _; rfl
    | succ k ih =>
      intro hk
      rw [totI, ih (by omega), List.take_succ_eq_append_getElem (by omega), List.sum_append, nth_get _ _ (by omega)]
      simp
  rw [totR, this _ (Nat.le_refl _), List.take_length]
theorem tot_fmap (h : Nat → Int) (n : Nat) : totI (fmap h n) n = totR (fmap h n) := by rw [totR, fmap_len]
theorem tot_skip {h : Nat → Int} {n x : Nat} (hx : x < n) : totR (fmap (fun a => h (skp x a)) (n - 1)) + h x = totR (fmap h n) := by
  rw [← fmap_del hx, totR_sum, totR_sum, List.sum_append]
  have e : fmap h n = (fmap h n).take x ++ ([h x] ++ (fmap h n).drop (x+1)) := by
    have h1 := (List.take_append_drop x (fmap h n)).symm
    rw [List.drop_eq_getElem_cons (by rw [fmap_len]; exact hx)] at h1
    have h2 : (fmap h n)[x]'(by rw [fmap_len]; exact hx) = h x := by simp [fmap]
    rw [h2] at h1
    exact h1
  have h3 := congrArg List.sum e
  rw [List.sum_append, List.sum_append] at h3
  simp at h3
  omega
theorem tot_ex {h : Nat → Int} {n : Nat} (ht : 0 < totR (fmap h n)) (hn : ∀ j, j < n → 0 ≤ h j) : ∃ j, j < n ∧ 0 < h j := by
  apply Classical.byContradiction
  intro hno
  have hz : totI (fmap h n) (fmap h n).length = 0 := totI_zero (fun j hj => by
    rw [fmap_len] at hj
    rw [fmap_nth _ hj]
    have h1 := hn j hj
    have h2 : ¬ 0 < h j := fun h3 => hno ⟨j, hj, h3⟩
    omega)
  rw [totR, hz] at ht
  omega
theorem tot_pos {h : Nat → Int} {n j : Nat} (hn : ∀ j, j < n → 0 ≤ h j) (hj : j < n) (hp : 0 < h j) : 0 < totR (fmap h n) := by
  have h1 := totI_at (xs := fmap h n) (j := j) (k := n) hj (fun i hi => by rw [fmap_nth _ hi]; exact hn i hi)
  rw [fmap_nth _ hj, tot_fmap] at h1
  omega
theorem sqS_rows {f : Nat → Nat → Int} {n : Nat} : ∀ {m : Nat}, sqS f n m = totR (fmap (fun i => totR (fmap (f i) n)) m)
  | 0 => rfl
  | m+1 => by
    rw [sqS, sqS_rows (f := f) (n := n) (m := m), ← tot_fmap (fun i => totR (fmap (f i) n)) (m+1), totI, fmap_nth _ (show m < m + 1 by omega), totI_fmap (f := fun i => totR (fmap (f i) n)) (n := m + 1) (k := m) (by omega), tot_fmap]
    rw [tot_fmap (fun i => totR (fmap (f i) n)) m]
theorem mk_mx {g : Nat → Nat → Int} {n : Nat} (hnn : ∀ i, i < n → ∀ j, j < n → 0 ≤ g i j) (hup : ∀ i, i < n → ∀ j, j < i → g i j = 0) (hrow : ∀ i, i < n → 0 < totR (fmap (g i) n)) (hcol : ∀ j, j < n → 0 < totR (fmap (fun i => g i j) n)) (hs : sqS g n n ≤ 12) : mxB (sqM g n n) = true ∧ matS (sqM g n n) (sqM g n n).length = sqS g n n := by
  have hcols : colsL (sqM g n n) = sqM (fun a b => g b a) n n := by
    rw [colsL_sq, sqM_len]
    exact sqM_congr (fun i hi j hj => sqM_at hj hi)
  have hms : matS (sqM g n n) (sqM g n n).length = sqS g n n := by
    rw [sqM_len, matS_sq (n := n) (fun i hi => sqM_rlen hi)]
    have : ∀ k, k ≤ n → sqS (atM (sqM g n n)) n k = sqS g n k := by
      intro k
      induction k with
      | zero => intro _; rfl
      | succ k ih =>
        intro hk
        rw [sqS, sqS, ih (by omega)]
        congr 1
        exact totI_congr (fun j hj => by rw [fmap_nth _ hj, fmap_nth _ hj, sqM_at (by omega) hj])
    exact this n (Nat.le_refl _)
  refine ⟨mxB_iff.2 ⟨adB_iff.2 ⟨fun k hk => ?_, by rw [hms]; exact hs⟩, upB_iff.2 (fun i hi => ?_), ?_⟩, hms⟩
  · rw [sqM_len] at hk
    rw [sqM_row hk]
    exact ⟨fun j hj => by rw [fmap_len] at hj; rw [fmap_nth _ hj]; exact hnn k hk j hj, hrow k hk⟩
  · rw [sqM_len] at hi
    rw [sqM_len]
    exact ⟨sqM_rlen hi, fun j hj => by rw [sqM_at hi (by omega)]; exact hup i hi j hj⟩
  · have hmc := matS_cols (xss := sqM g n n) (fun i hi => by rw [sqM_len] at hi ⊢; exact sqM_rlen hi)
    rw [hcols] at hmc ⊢
    refine adB_iff.2 ⟨fun k hk => ?_, by rw [hmc, hms]; exact hs⟩
    rw [sqM_len] at hk
    rw [sqM_row hk]
    exact ⟨fun j hj => by rw [fmap_len] at hj; rw [fmap_nth _ hj]; exact hnn j hj k hk, hcol k hk⟩
/-- what a matrix says of its numbers -/
theorem of_mx {xss : List (List Int)} (h : mxB xss = true) : (∀ i, i < xss.length → 0 < totR (fmap (atM xss i) xss.length)) ∧ (∀ j, j < xss.length → 0 < totR (fmap (fun i => atM xss i j) xss.length)) ∧ (∀ i, i < xss.length → ∀ j, j < i → atM xss i j = 0) ∧ matS xss xss.length = sqS (atM xss) xss.length xss.length ∧ sqS (atM xss) xss.length xss.length ≤ 12 := by
  have ⟨h1, h2, h3⟩ := mxB_iff.1 h
  have hms := matS_sq (xss := xss) (n := xss.length) (k := xss.length) (fun i hi => mxB_len h hi)
  refine ⟨fun i hi => ?_, fun j hj => ?_, fun i hi => (upB_iff.1 h2 i hi).2, hms, by rw [← hms]; exact (adB_iff.1 h1).2⟩
  · have h4 := (adB_row h1 hi).1
    have h5 : rowL xss i = fmap (atM xss i) xss.length := by
      have h6 := list_fmap (rowL xss i)
      rw [mxB_len h hi] at h6
      exact h6
    rw [h5] at h4; exact h4
  · have h4 := (adB_row h3 (k := j) (by rw [colsL_len]; exact hj)).1
    rw [colsL_row hj] at h4
    exact h4
/-- a row keeps its sum -/
theorem sh_row {f : Nat → Nat → Int} {d x i j : Nat} (hj : skp x j = i) (hx : x < d) (hup : ∀ j, j < i → f i j = 0) (hz : i < x → f i (d - 1) = 0) : totR (fmap (shF f d x j) (d - 1)) = totR (fmap (f i) d) := by
  have hne : i ≠ x := by rw [← hj, skp]; split <;> omega
  rw [← shF_row hj]
  have h1 := tot_skip (h := rowU f d x i) hx
  by_cases hc : i < x ∧ x < d - 1
  · have h2 : fmap (rowU f d x i) d = (fmap (f i) d).set (d - 1) (f i x) := by
      rw [list_fmap ((fmap (f i) d).set (d - 1) (f i x))]
      simp only [List.length_set, fmap_len]
      refine fmap_ext (fun b hb => ?_)
      rw [nth_setM (by rw [fmap_len]; omega), fmap_nth _ hb, rowU]
      by_cases e : b = d - 1
      · rw [if_pos ⟨hc, e⟩, if_pos e]
      · rw [if_neg (fun h => e h.2), if_neg e]
    have h3 := tot_skip (h := rowU f d x i) (n := d) (x := d - 1) (by omega)
    have h4 := tot_skip (h := f i) (n := d) (x := d - 1) (by omega)
    have h5 : fmap (fun a => rowU f d x i (skp (d - 1) a)) (d - 1) = fmap (fun a => f i (skp (d - 1) a)) (d - 1) := fmap_ext (fun a ha => by
      rw [rowU, if_neg]
      rintro ⟨_, h6⟩
      rw [skp] at h6
      split at h6 <;> omega)
    rw [h5] at h3
    have h7 : rowU f d x i (d - 1) = f i x := by rw [rowU, if_pos ⟨hc, rfl⟩]
    have h8 : rowU f d x i x = f i x := by rw [rowU, if_neg (fun h => by omega)]
    have h9 := hz hc.1
    rw [h7] at h3
    rw [h8] at h1
    omega
  · have h2 : fmap (rowU f d x i) d = fmap (f i) d := fmap_ext (fun b hb => by rw [rowU, if_neg (fun h => hc h.1)])
    have h8 : rowU f d x i x = f i x := by rw [rowU, if_neg (fun h => hc h.1)]
    have h9 : f i x = 0 := by
      by_cases h : i < x
      · have : x = d - 1 := by omega
        rw [this]; exact hz h
      · exact hup x (by omega)
    rw [h2, h8] at h1
    omega
/-- a matrix that has been shrunk is a matrix, its sum is one less -/
theorem sh_mx {xss : List (List Int)} (h : topB xss = true) : mxB (shL xss) = true ∧ matS (shL xss) (shL xss).length + 1 = matS xss xss.length := by
  have ⟨hmx, hpos⟩ := topB_mx h
  have htl := topN_lt hmx hpos
  have ⟨hr, hc, hup, hms, h12⟩ := of_mx hmx
  have hnn : ∀ i, i < xss.length → ∀ j, j < xss.length → 0 ≤ atM xss i j := fun i hi j hj => (mxB_num hmx hi hj).1
  have hzt : ∀ i, i < topN xss → atM xss i (xss.length - 1) = 0 := fun i hi => topN_zero hi
  have hne := topN_ne hmx hpos
  have hrT : totR (rowL xss (topN xss)) = totR (fmap (atM xss (topN xss)) xss.length) := by
    have h6 := list_fmap (rowL xss (topN xss))
    rw [mxB_len hmx htl] at h6
    exact congrArg totR h6
  rw [shL, if_pos h, hrT, hms]
  generalize hx : topN xss = x at *
  generalize hf : atM xss = f at *
  generalize hd : xss.length = d at *
  clear hx hf hd h hmx hrT hms
  have hnx := hnn x htl (d - 1) (by omega)
  have hdd : 0 < f (d - 1) (d - 1) := by
    obtain ⟨j, hj, hp⟩ := tot_ex (hr (d - 1) (by omega)) (fun j hj => hnn (d - 1) (by omega) j hj)
    by_cases e : j = d - 1
    · rw [e] at hp; exact hp
    · have := hup (d - 1) (by omega) j (by omega); omega
  split
  · rename_i hS
    have hsk : ∀ a, a < d - 1 → skp x a < d ∧ skp x a ≠ x := fun a ha => by rw [skp]; split <;> omega
    have hval : ∀ a b, a < d - 1 → b < d - 1 → shF f d x a b = if skp x a < x ∧ skp x b = d - 1 then f (skp x a) x else f (skp x a) (skp x b) := fun a b ha hb => by
      have h1 := (hsk b hb).2
      rw [shF, swF]
      by_cases h2 : skp x a < x
      · rw [if_pos h2]
        by_cases h3 : skp x b = d - 1
        · rw [if_pos h3, if_pos ⟨h2, h3⟩]
        · rw [if_neg h3, if_neg h1, if_neg (fun h => h3 h.2)]
      · rw [if_neg h2, if_neg (fun h => h2 h.1)]
    have hnn2 : ∀ a, a < d - 1 → ∀ b, b < d - 1 → 0 ≤ shF f d x a b := fun a ha b hb => by
      rw [hval a b ha hb]
      split
      · exact hnn _ (hsk a ha).1 _ htl
      · exact hnn _ (hsk a ha).1 _ (hsk b hb).1
    have hrow2 : ∀ a, a < d - 1 → totR (fmap (shF f d x a) (d - 1)) = totR (fmap (f (skp x a)) d) := fun a ha => sh_row rfl htl (fun j hj => hup _ (hsk a ha).1 j hj) (fun h2 => hzt _ h2)
    have hxrow : ∀ j, j < d - 1 → f x j = 0 := fun j hj => by
      have h1 := tot_skip (h := f x) (n := d) (x := d - 1) (by omega)
      have h2 := totI_at (xs := fmap (fun a => f x (skp (d - 1) a)) (d - 1)) (j := j) (k := d - 1) hj (fun i hi => by rw [fmap_nth _ hi]; exact hnn x htl _ (by rw [skp]; split <;> omega))
      rw [fmap_nth _ hj, tot_fmap, show skp (d - 1) j = j by rw [skp, if_pos hj]] at h2
      have h3 := hnn x htl j (by omega)
      omega
    have hsum : sqS (shF f d x) (d - 1) (d - 1) + 1 = sqS f d d := by
      rw [sqS_rows, sqS_rows (f := f)]
      have h1 := tot_skip (h := fun i => totR (fmap (f i) d)) htl
      have h2 : fmap (fun i => totR (fmap (shF f d x i) (d - 1))) (d - 1) = fmap (fun a => totR (fmap (f (skp x a)) d)) (d - 1) := fmap_ext (fun a ha => hrow2 a ha)
      rw [h2]
      omega
    have hm := mk_mx (g := shF f d x) (n := d - 1) hnn2 (fun a ha b hb => by
        rw [hval a b ha (by omega)]
        have hlt : skp x b < skp x a := by rw [skp, skp]; split <;> split <;> omega
        rw [if_neg (fun h => by have := (hsk a ha).1; omega)]
        exact hup _ (hsk a ha).1 _ hlt) (fun a ha => by rw [hrow2 a ha]; exact hr _ (hsk a ha).1) (fun b hb => by
        by_cases hq : skp x b = d - 1
        · have hxd : x < d - 1 := by rw [skp] at hq; split at hq <;> omega
          have hlast : skp x (d - 2) = d - 1 := by rw [skp, if_neg (by omega)]; omega
          refine tot_pos (fun a ha => hnn2 a ha b hb) (j := d - 2) (by omega) ?_
          rw [hval (d - 2) b (by omega) hb, hlast, if_neg (fun h => by omega), hq]
          exact hdd
        · obtain ⟨i, hi, hp⟩ := tot_ex (hc (skp x b) (hsk b hb).1) (fun i hi => hnn i hi _ (hsk b hb).1)
          have hix : i ≠ x := fun e => by
            rw [e, hxrow (skp x b) (by have := (hsk b hb).1; omega)] at hp
            omega
          have hex : ∃ a, a < d - 1 ∧ skp x a = i := by
            by_cases h9 : i < x
            · exact ⟨i, by omega, by rw [skp, if_pos h9]⟩
            · exact ⟨i - 1, by omega, by rw [skp, if_neg (by omega)]; omega⟩
          obtain ⟨a, ha, rfl⟩ := hex
          refine tot_pos (fun a ha => hnn2 a ha b hb) ha ?_
          rw [hval a b ha hb, if_neg (fun h => hq h.2)]
          exact hp) (by omega)
    exact ⟨hm.1, by rw [hm.2]; exact hsum⟩
  · rename_i hS
    have hS1 := hr x htl
    have hrow2 : ∀ a, a < d → a ≠ x → fmap (decF f d x a) d = fmap (f a) d := fun a ha hne => fmap_ext (fun b hb => by rw [decF, if_neg (fun h => hne h.1)])
    have hrx : totR (fmap (decF f d x x) d) + 1 = totR (fmap (f x) d) := by
      have h1 := tot_skip (h := decF f d x x) (n := d) (x := d - 1) (by omega)
      have h2 := tot_skip (h := f x) (n := d) (x := d - 1) (by omega)
      have h3 : fmap (fun a => decF f d x x (skp (d - 1) a)) (d - 1) = fmap (fun a => f x (skp (d - 1) a)) (d - 1) := fmap_ext (fun a ha => by
        rw [decF, if_neg]
        rintro ⟨_, h6⟩
        rw [skp] at h6
        split at h6 <;> omega)
      have h4 : decF f d x x (d - 1) = f x (d - 1) - 1 := by rw [decF, if_pos ⟨rfl, rfl⟩]
      rw [h3, h4] at h1
      omega
    have hnn2 : ∀ a, a < d → ∀ b, b < d → 0 ≤ decF f d x a b := fun a ha b hb => by
      rw [decF]
      split
      · omega
      · exact hnn a ha b hb
    have hsum : sqS (decF f d x) d d + 1 = sqS f d d := by
      rw [sqS_rows, sqS_rows (f := f)]
      have h1 := tot_skip (h := fun i => totR (fmap (f i) d)) htl
      have h2 := tot_skip (h := fun i => totR (fmap (decF f d x i) d)) htl
      have h3 : fmap (fun a => totR (fmap (decF f d x (skp x a)) d)) (d - 1) = fmap (fun a => totR (fmap (f (skp x a)) d)) (d - 1) := fmap_ext (fun a ha => by
        rw [hrow2 (skp x a) (by rw [skp]; split <;> omega) (by rw [skp]; split <;> omega)])
      rw [h3] at h2
      omega
    have hm := mk_mx (g := decF f d x) (n := d) hnn2 (fun a ha b hb => by
        rw [decF]
        by_cases e : a = x ∧ b = d - 1
        · omega
        · rw [if_neg e]; exact hup a ha b hb) (fun a ha => by
        by_cases e : a = x
        · rw [e]; omega
        · rw [hrow2 a ha e]; exact hr a ha) (fun b hb => by
        by_cases hq : b = d - 1
        · subst hq
          by_cases hxd : x = d - 1
          · refine tot_pos (fun a ha => hnn2 a ha _ hb) (j := d - 1) (by omega) ?_
            obtain ⟨j, hj, hp⟩ := tot_ex (h := decF f d x x) (n := d) (by omega) (fun j hj => hnn2 x htl j hj)
            by_cases e : j = d - 1
            · rw [e] at hp; rw [hxd] at hp; rw [hxd]; exact hp
            · have h8 := hup (d - 1) (by omega) j (by omega)
              rw [decF, if_neg (fun h => e h.2), hxd, h8] at hp
              omega
          · refine tot_pos (fun a ha => hnn2 a ha _ hb) (j := d - 1) (by omega) ?_
            rw [decF, if_neg (fun h => hxd h.1.symm)]
            exact hdd
        · have e : fmap (fun i => decF f d x i b) d = fmap (fun i => f i b) d := fmap_ext (fun i hi => by rw [decF, if_neg (fun h => hq h.2)])
          rw [e]
          exact hc b hb) (by omega)
    exact ⟨hm.1, by rw [hm.2]; exact hsum⟩

/-- the numbers that are taken out of a matrix, the last one taken first -/
def asF : Nat → List (List Int) → List Int
  | 0, _ => []
  | n+1, xss => asF n (shL xss) ++ [topV xss]
theorem asF_len : ∀ (n : Nat) (xss : List (List Int)), (asF n xss).length = n
  | 0, _ => rfl
  | n+1, xss => by rw [asF, List.length_append, asF_len n]; rfl
def slL : Value → Nat
  | .slice _ n _ => n
  | _ => 0
def asN (xss : List (List Int)) : Nat := (matS xss xss.length).toNat
def asL (xss : List (List Int)) : List Int := asF (asN xss) xss
theorem topB_of {xss : List (List Int)} (h : mxB xss = true) (hp : 0 < xss.length) : topB xss = true := by
  simp [topB, h]; intro e; simp [e] at hp
theorem asN_step {xss : List (List Int)} (h : topB xss = true) : asN xss = asN (shL xss) + 1 := by
  have ⟨h1, h2⟩ := sh_mx h
  have h4 : 0 ≤ matS (shL xss) (shL xss).length := by
    exact matS_nn (fun j hj => by have := (adB_row (mxB_iff.1 h1).1 hj).1; omega)
  rw [asN, asN]; omega
theorem asF_step {xss : List (List Int)} (h : topB xss = true) (l : List Int) : asF (asN xss) xss ++ l = asF (asN (shL xss)) (shL xss) ++ (topV xss :: l) := by
  rw [asN_step h, asF, List.append_assoc]; rfl

def amL (xss : List (List Int)) : List Int := if mxB xss then asL xss else []
theorem amL_len (xss : List (List Int)) : (amL xss).length ≤ 1048576 := by
  unfold amL
  split
  · rename_i h
    have := of_mx h
    rw [asL, asF_len, asN]; omega
  · simp

/-- one row more at the end of rows that have been made -/
theorem push_row {ops : Array Oper} {rest : List Oper} {o : Oper} {a : Act} {Q : Exit → Act → World → Prop} (hgd : o.guard = none) (s x : Operand)
    (ho : o.op = .call { callee := .builtin .append, args := #[s, x], argTypes := #[22, 22] }) {wr : World} {B C n cp : Nat} {ar : Option Addr} {v : Value} {vl : List Value} {xss : List (List Int)} {r : List Int}
    (hs : a.eval s = v) (hro : RowsP wr B v vl xss) (hrow : OwnI wr C (.slice ar n cp) r) (hx : a.eval x = .slice (some ⟨wr.heap.size, 0, none⟩) 1 1) (h63 : xss.length ≤ 1048576) (hBC : B ≤ C) (hC : C ≤ wr.heap.size)
    (hvC : ∀ c, v.ownBlock = some c → c < C) (hrC : ∀ k, k < xss.length → ∀ c, (valAt vl k).ownBlock = some c → c < C)
    (h : ∀ v' w', RowsP w' B v' (vl ++ [.slice ar n cp]) (xss ++ [r]) → wr.grownBy w' v.ownBlock → wpList Try.prog ops Q rest (a.put o.dst v') w') :
    wpList Try.prog ops Q (o :: rest) a (wr.alloc (.cells #[.slice ar n cp] 26)) := by
  obtain ⟨j0, hj0, hy0, hy1, hy2⟩ := info_parts infoSlice
  have hone := RowsP.one hrow hC
  have b4 : Below wr.heap.size wr (wr.alloc (.cells #[.slice ar n cp] 26)) := (Below.refl _ _).alloc (Nat.le_refl _) _
  have hro4 := hro.below b4 (Nat.le_refl _)
  obtain ⟨av, cv, rfl⟩ := hro.o.form
  refine wpList_append_own_at _ hgd s x 22 ho B 26 j0 (.slice none 0 0) 1 24 Try.underlying22 hj0 hy0 hy1 hy2 rfl (by decide) (.slice av xss.length cv) xss.length vl hs hro4.o.own ⟨wr.heap.size, 0, none⟩ 1 1 [.slice ar n cp] hx rfl (cell_one_new _ _ _) (by intro u hu; simp at hu; subst hu; rfl) (by unfold maxLen; omega) (by omega) (by simp; omega) ?_
  intro v' w' ho2 hg _ hat
  exact h v' w' (hro4.cat hone hBC hvC hrC ho2 hg hat) (grown_alloc_set hg)

/-- one row more at the end -/
theorem RowsP.snoc {w w' : World} {B C : Nat} {v v' u : Value} {vl : List Value} {xss : List (List Int)} {r : List Int} (h : RowsP w B v vl xss) (hr : OwnI w C u r) (hBC : B ≤ C) (hvC : ∀ c, v.ownBlock = some c → c < C) (hrC : ∀ k, k < xss.length → ∀ c, (valAt vl k).ownBlock = some c → c < C)
    (ho : w'.ownsRow B 26 1 v' (xss.length + 1) (vl ++ [u])) (hg : w.grownBy w' v.ownBlock) (hv' : v'.ownBlock = v.ownBlock ∨ ∃ m, w.heap.size ≤ m ∧ v'.ownBlock = some m) : RowsP w' B v' (vl ++ [u]) (xss ++ [r]) := by
  have hl := h.o.vlen
  have e1 : ∀ k, k < xss.length → valAt (vl ++ [u]) k = valAt vl k := fun k hk => by rw [valAt, valAt, List.getD_eq_getElem?_getD, List.getD_eq_getElem?_getD, List.getElem?_append_left (by omega)]
  have e2 : valAt (vl ++ [u]) xss.length = u := by rw [← hl]; simp [valAt]
  have r1 : ∀ k, k < xss.length → rowL (xss ++ [r]) k = rowL xss k := fun k hk => by rw [rowL, rowL, List.getD_eq_getElem?_getD, List.getD_eq_getElem?_getD, List.getElem?_append_left hk]
  have r2 : rowL (xss ++ [r]) xss.length = r := by simp [rowL]
  have hur := hr.lt
  refine ⟨⟨by rw [List.length_append, List.length_singleton]; exact ho, fun k hk => ?_, fun k hk c hc hc2 => ?_⟩, fun j k hjk hk c hc => ?_⟩
  · rw [List.length_append, List.length_singleton] at hk
    by_cases e : k = xss.length
    · subst e
      rw [e2, r2]
      exact (hr.mono hBC).kept hg (own_ne (fun c h1 h3 => by have := hvC c h3; have := (hur c h1).1; omega))
    · rw [e1 k (by omega), r1 k (by omega)]
      exact (h.o.row k (by omega)).kept hg (own_ne (fun c h1 h3 => h.o.apart k (by omega) c h1 h3))
  · rw [List.length_append, List.length_singleton] at hk
    by_cases e : k = xss.length
    · subst e
      rw [e2] at hc
      have h1 := hur c hc
      rcases hv' with h3 | ⟨m, hm, h3⟩
      · rw [h3] at hc2; have := hvC c hc2; omega
      · rw [h3] at hc2; simp only [Option.some.injEq] at hc2; omega
    · rw [e1 k (by omega)] at hc
      have h1 := ((h.o.row k (by omega)).lt c hc).2
      rcases hv' with h3 | ⟨m, hm, h3⟩
      · rw [h3] at hc2; exact h.o.apart k (by omega) c hc hc2
      · rw [h3] at hc2; simp only [Option.some.injEq] at hc2; omega
  · rw [List.length_append, List.length_singleton] at hk
    rw [e1 j (by omega)] at hc
    by_cases e : k = xss.length
    · subst e
      rw [e2]
      intro h3
      have := hrC j (by omega) c hc
      have := (hur c h3).1
      omega
    · rw [e1 k (by omega)]
      exact h.pair j k hjk (by omega) c hc
/-- an append of one row at a step of a region that draws its order; the new row's value lies somewhere -/
theorem step_push_row {ops : Array Oper} {o : Oper} {a : Act} {K : Act → World → Prop} {Q : Exit → Act → World → Prop} {E : Prop} (hgd : o.guard = none) (s x : Operand)
    (ho : o.op = .call { callee := .builtin .append, args := #[s, x], argTypes := #[22, 22] }) {W : World} {B C g n m cp : Nat} {ar : Option Addr} {v : Value} {vl : List Value} {xss : List (List Int)} {r : List Int}
    (hs : a.eval s = v) (hx : a.eval x = .slice (some ⟨g, 0, none⟩) 1 1) (hro : RowsP W B v vl xss) (hn : xss.length = n) (hrow : OwnI W C (.slice ar m cp) r) (hz : W.cell? ⟨g, 0, none⟩ = some (.slice ar m cp)) (h63 : n ≤ 1048576) (hBC : B ≤ C) (hC : C ≤ W.heap.size)
    (hvC : ∀ c, v.ownBlock = some c → c < C) (hrC : ∀ k, k < xss.length → ∀ c, (valAt vl k).ownBlock = some c → c < C)
    (h : ∀ g' cap w', RowsP w' B (.slice (some ⟨g', 0, none⟩) (n + 1) cap) (vl ++ [.slice ar m cp]) (xss ++ [r]) → W.grownBy w' v.ownBlock → K (a.put o.dst (.slice (some ⟨g', 0, none⟩) (n + 1) cap)) w') :
    if Region.wanted o (yielded ops a.tmps) = true then Oper.wp Try.prog o a W K Q else E := by
  subst hn
  obtain ⟨j0, hj0, hy0, hy1, hy2⟩ := info_parts infoSlice
  refine step_append_lies W hgd s x 22 ho B 26 j0 (.slice none 0 0) 1 24 Try.underlying22 hj0 hy0 hy1 hy2 rfl (by decide) v xss.length vl hs hro.o.own ⟨g, 0, none⟩ 1 1 [.slice ar m cp] hx rfl ?_ (by intro u hu; simp at hu; subst hu; rfl) (by omega) (by unfold maxLen; omega) (by omega) (by omega) W.heap.size rfl ?_
  · intro j u hj
    obtain ⟨hlt, e⟩ := List.getElem?_eq_some_iff.1 hj
    have h0 : j = 0 := by simpa using hlt
    subst h0
    simp at e
    subst e
    rw [Addr.add_lit]; simpa using hz
  · intro g' cap w' ho2 hg hat _
    refine h g' cap w' (hro.snoc hrow hBC hvC hrC ho2 hg ?_) hg
    rcases hat with h1 | h1
    · exact .inl (by rw [h1]; rfl)
    · exact .inr ⟨g', by omega, rfl⟩

/-- one number more at the end of a row that is owned -/
theorem push_at {ops : Array Oper} {rest : List Oper} {o : Oper} {a : Act} {Q : Exit → Act → World → Prop} (hgd : o.guard = none) (s x : Operand)
    (ho : o.op = .call { callee := .builtin .append, args := #[s, x], argTypes := #[26, 26] }) {wr : World} {B : Nat} {v : Value} {ys : List Int} {z : Int}
    (hs : a.eval s = v) (hown : OwnI wr B v ys) (hx : a.eval x = .slice (some ⟨wr.heap.size, 0, none⟩) 1 1) (h63 : ys.length ≤ 1048576) (hB : B ≤ wr.heap.size)
    (h : ∀ v' w', OwnI w' B v' (ys ++ [z]) → wr.grownBy w' v.ownBlock → (v'.ownBlock = v.ownBlock ∨ v'.ownBlock = some (wr.heap.size + 1)) → wpList Try.prog ops Q rest (a.put o.dst v') w') :
    wpList Try.prog ops Q (o :: rest) a (wr.alloc (.cells #[.int .i64 z] 3)) := by
  obtain ⟨i0, hi, hz0, hz1, hz2⟩ := info_parts infoInt
  refine wpList_append_own_at _ hgd s x 26 ho B 3 i0 (.int .i64 0) 1 8 Try.underlying26 hi hz0 hz1 hz2 rfl (by decide) v ys.length (ys.map (Value.int .i64)) hs (hown.alloc _) ⟨wr.heap.size, 0, none⟩ 1 1 [.int .i64 z] hx rfl (cell_one_new _ _ _) (by intro u hu; simp at hu; subst hu; rfl) (by unfold maxLen; omega) (by omega) (by simp; omega) ?_
  intro v' w' ho2 hg _ hat
  refine h v' w' ?_ (grown_alloc_set hg) (by simpa using hat)
  unfold OwnI
  rw [List.length_append, List.map_append]
  exact ho2
/-- the same at a step of a region that draws its order; the new number lies somewhere -/
theorem step_push {ops : Array Oper} {o : Oper} {a : Act} {K : Act → World → Prop} {Q : Exit → Act → World → Prop} {E : Prop} (hgd : o.guard = none) (s x : Operand)
    (ho : o.op = .call { callee := .builtin .append, args := #[s, x], argTypes := #[26, 26] }) {W : World} {B g n : Nat} {v : Value} {ys : List Int} {z : Int}
    (hs : a.eval s = v) (hx : a.eval x = .slice (some ⟨g, 0, none⟩) 1 1) (hown : OwnI W B v ys) (hn : ys.length = n) (hz : W.cell? ⟨g, 0, none⟩ = some (.int .i64 z)) (h63 : n ≤ 1048576) (hB : B ≤ W.heap.size)
    (h : ∀ g' cap w', OwnI w' B (.slice (some ⟨g', 0, none⟩) (n + 1) cap) (ys ++ [z]) → W.grownBy w' v.ownBlock → (v.ownBlock = some g' ∨ g' = W.heap.size) → K (a.put o.dst (.slice (some ⟨g', 0, none⟩) (n + 1) cap)) w') :
    if Region.wanted o (yielded ops a.tmps) = true then Oper.wp Try.prog o a W K Q else E := by
  subst hn
  obtain ⟨i0, hi, hz0, hz1, hz2⟩ := info_parts infoInt
  refine step_append_lies W hgd s x 26 ho B 3 i0 (.int .i64 0) 1 8 Try.underlying26 hi hz0 hz1 hz2 rfl (by decide) v ys.length (ys.map (Value.int .i64)) hs hown ⟨g, 0, none⟩ 1 1 [.int .i64 z] hx rfl ?_ (by intro u hu; simp at hu; subst hu; rfl) (by omega) (by unfold maxLen; omega) (by omega) hB W.heap.size rfl ?_
  · intro j u hj
    obtain ⟨hlt, e⟩ := List.getElem?_eq_some_iff.1 hj
    have h0 : j = 0 := by simpa using hlt
    subst h0
    simp at e
    subst e
    rw [Addr.add_lit]; simpa using hz
  · intro g' cap w' ho2 hg hat _
    refine h g' cap w' ?_ hg hat
    unfold OwnI
    rw [List.length_append, List.map_append]
    exact ho2
theorem news_after {w w3 : World} {x : Int} {m : Nat} (h : Below ((w.drewN m).alloc (.cells #[.int .i64 x] 3)).heap.size ((w.drewN m).alloc (.cells #[.int .i64 x] 3)) w3) : w3.cell? ⟨w.heap.size, 0, none⟩ = some (.int .i64 x) :=
  (h.cell (p := ⟨w.heap.size, 0, none⟩) (show w.heap.size < ((w.drewN m).alloc _).heap.size by rw [World.size_alloc]; exact Nat.lt_succ_of_le (Joins.below_draws w.heap.size w m).size)).trans ((show ∀ W : World, (W.alloc (.cells #[.int .i64 x] 3)).cell? ⟨W.heap.size, 0, none⟩ = some (.int .i64 x) from fun W => by simp) (w.drewN m))
theorem below_after {w w3 : World} {m : Nat} {o : Obj} (h : Below ((w.drewN m).alloc o).heap.size ((w.drewN m).alloc o) w3) : Below w.heap.size w w3 :=
  Below.trans ((Joins.below_draws w.heap.size w m).alloc (Joins.below_draws w.heap.size w m).size _) (h.mono (Nat.le_trans (Joins.below_draws w.heap.size w m).size (by simp)))
theorem below_drew {w w3 : World} {m : Nat} (h : Below (w.drewN m).heap.size (w.drewN m) w3) : Below w.heap.size w w3 :=
  Below.trans (Joins.below_draws w.heap.size w m) (h.mono (Joins.below_draws w.heap.size w m).size)
/-- two values that own no block together -/
def SepV (v u : Value) : Prop := ∀ c, v.ownBlock = some c → u.ownBlock ≠ some c
theorem SepV.symm {v u : Value} (h : SepV v u) : SepV u v := fun c e e2 => h c e2 e
/-- the first of two rows has grown -/
theorem SepV.grow {w : World} {B : Nat} {v v' u : Value} {ys : List Int} {m : Nat} (h : SepV v u) (hu : OwnI w B u ys) (hm : w.heap.size ≤ m) (hat : v'.ownBlock = v.ownBlock ∨ v'.ownBlock = some m) : SepV v' u := by
  intro c e e2
  rcases hat with h1 | h1
  · exact h c (h1 ▸ e) e2
  · rw [h1] at e
    have := (hu.lt c e2).2
    simp only [Option.some.injEq] at e
    omega

theorem RowsP.setBelow {w : World} {B : Nat} {v : Value} {vl : List Value} {xss : List (List Int)} (h : RowsP w B v vl xss) {p : Addr} (hp : p.block < B) (u : Value) : RowsP (w.setCell p u) B v vl xss :=
  ⟨⟨ownsRow_setCell_below h.o.own hp u, fun k hk => (h.o.row k hk).setBelow hp u, h.o.apart⟩, h.pair⟩
theorem sqM_succ (f : Nat → Nat → Int) (n m : Nat) : sqM f (n+1) m = sqM f n m ++ [fmap (f n) m] := by
  simp [sqM, List.range_succ]
/-- a matrix as a result -/
def GotM (e : Ending) (w w' : World) (L : List (List Int)) (b : Bool) : Prop := ∃ a c vl, e = .returned (.tuple #[.agg #[.slice a L.length c], .bool b]) ∧ RowsP w' w.heap.size (.slice a L.length c) vl L ∧ Below w.heap.size w w'
/-- a matrix that may be one -/
theorem mx_eta {xss : List (List Int)} (h : mxB xss = true) : xss = sqM (atM xss) xss.length xss.length := sq_eta (fun i hi => mxB_len h hi)

theorem wpList_append_none {P : Program} {w : World} {ops : Array Oper} {rest : List Oper} {o : Oper} {a : Act} {Q : Exit → Act → World → Prop} (hgd : o.guard = none) (s x : Operand) (t : TypeId)
    (ho : o.op = .call { callee := .builtin .append, args := #[s, x], argTypes := #[t, t] })
    (base : Nat) (e : TypeId) (i : TypeInfo) (size : Nat) (ht : P.underlying t = some (.slice e)) (hi : P.info? e = some i)
    (v : Value) (n c : Nat) (xs : List Value) (hs : a.eval s = v) (hown : w.ownsRow base e size v n xs) (hx : a.eval x = .slice none 0 c)
    (h : wpList P ops Q rest (a.put o.dst v) w) : wpList P ops Q (o :: rest) a w := by
  refine wpList_plain hgd fun K hK => ?_
  have hrun : (Builtin.append_ #[t, t] o.type #[v, .slice none 0 c]).run P w = .ok v w := by
    rcases hown.2 with ⟨rfl, rfl⟩ | ⟨g, cap, cur, rfl, _, _, hnc, _⟩
    · simp [Builtin.append_, run_underlying ht, sizeOf, typeInfo, hi, Builtin.lenOf, Builtin.firstCells]
    · simp [Builtin.append_, run_underlying ht, sizeOf, typeInfo, hi, Builtin.lenOf, Builtin.firstCells, hnc, storeCells]
  unfold Oper.wp
  simp [execOp, ho, resolve, invoke, builtin, hs, hx, hrun, Result.andThen]
  exact hK _ _ h
theorem rd_news {w : World} {ad : Addr} {xs : List Int} (hx : Rd w (some ad) xs) : ∀ j u, (xs.map (Value.int .i64))[j]? = some u → w.cell? (ad.add j) = some u := by
  intro j u hj
  rw [List.getElem?_map, Option.map_eq_some_iff] at hj
  obtain ⟨x, hx1, rfl⟩ := hj
  obtain ⟨hlt, e⟩ := List.getElem?_eq_some_iff.1 hx1
  obtain ⟨b, off, e1, _, hc⟩ := hx.cell j hlt
  simp only [Option.some.injEq] at e1
  subst e1
  rw [Addr.add_lit, hc, nth_get xs j hlt, e]
theorem ints_one (xs : List Int) : ∀ u ∈ xs.map (Value.int .i64), u.oneCell' = true := by
  intro u hu
  obtain ⟨x, _, rfl⟩ := List.mem_map.1 hu
  rfl

theorem l1Own_any (a : Option Addr) (xs : List Int) (cap : Nat) (w : World) (hx : Rd w a xs) (hn : xs.length ≤ 1048576) :
    Calls Try.prog 103 #[.slice a xs.length cap] w fun e w' => ∃ a' cap', e = .returned (.slice a' xs.length cap') ∧ OwnI w' w.heap.size (.slice a' xs.length cap') xs ∧ Below w.heap.size w w' := by
  obtain ⟨i0, hi, hz0, hz1, hz2⟩ := info_parts infoInt
  have hown : (w.alloc (.cells #[] 3)).ownsRow w.heap.size 3 1 (.slice (some ⟨w.heap.size, 0, none⟩) 0 0) 0 [] := World.ownsRow_lit w #[] 0 (Nat.le_refl _) (by simp [maxLen]) (by simp)
  cases a with
  | none =>
    have h0 : xs = [] := by
      rcases xs with _ | ⟨x, t⟩
      · rfl
      · obtain ⟨b, off, e, _⟩ := hx.cell 0 (by simp)
        cases e
    subst h0
    go_enter Try.func103, Try.ntmps103
    go_wp2_with (at_builtin; refine wpList_append_none rfl _ _ 26 rfl w.heap.size 3 i0 1 Try.underlying26 hi _ 0 _ [] rfl hown rfl ?_)
    go_wp2_with fail
    go_ret
    exact ⟨_, _, rfl, hown, (by repeat (first | exact Below.refl _ _ | assumption | refine Below.alloc ?_ (by first | exact Nat.le_refl _ | (simp only [World.size_alloc, World.size_setCell, World.size_drew]; omega) | omega) _ | refine Below.setCell ?_ (by first | exact Nat.le_refl _ | (simp only [World.size_alloc, World.size_setCell, World.size_drew]; omega) | omega) _ | refine Below.drew ?_))⟩
  | some ad =>
    have hx1 := hx.alloc (.cells #[] 3)
    go_enter Try.func103, Try.ntmps103
    go_wp2_with (at_builtin; refine wpList_append_own _ rfl _ _ 26 rfl w.heap.size 3 i0 (.int .i64 0) 1 8 Try.underlying26 hi hz0 hz1 hz2 rfl (by decide) _ 0 [] rfl hown ad xs.length cap (xs.map (Value.int .i64)) rfl (by simp) ?c1 ?c2 ?c3 ?c4 ?c5 ?_)
    case c1 => exact rd_news hx1
    case c2 => exact ints_one xs
    case c3 => unfold maxLen; omega
    case c4 => omega
    case c5 => simp
    · intro v' w1 hown' hgrow _
      try simp only [Nat.zero_add, List.nil_append] at hown'
      have hb : Below w.heap.size w w1 := ((Below.refl _ _).alloc (Nat.le_refl _) _).grown hgrow (by simp) (fun b e => by simp [Value.ownBlock] at e; omega)
      obtain ⟨a', cap', rfl⟩ := OwnI.form (xs := xs) hown'
      have HO := Lib.hid hown'
      clear hown' hgrow hown
      go_wp2_with fail
      go_ret
      exact ⟨a', cap', rfl, HO.out, hb⟩

set_option maxRecDepth 100000 in
set_option maxHeartbeats 1000000 in
theorem maOwn_any (a : Option Addr) (xss : List (List Int)) (cap n m : Nat) (f : Nat → Nat → Int) (hf : xss = sqM f n m) (w : World) (hx : RdS w a xss) (hn : n ≤ 13) (hm : m ≤ 13) :
    Calls Try.prog 102 #[.agg #[.slice a n cap]] w fun e w' => ∃ a0 c0 vl, e = .returned (.agg #[.slice a0 n c0]) ∧ RowsP w' w.heap.size (.slice a0 n c0) vl (sqM f n m) ∧ Below w.heap.size w w' := by
  subst hf
  have hV0 := Var1.new (w.alloc (.cells #[.slice a n cap] 29)) (.slice none 0 0) 29
  have hO := Var1.new ((w.alloc (.cells #[.slice a n cap] 29)).alloc (.cells #[.slice none 0 0] 29)) (.slice none 0 0) 29
  have hb0 : Below w.heap.size w (((w.alloc (.cells #[.slice a n cap] 29)).alloc (.cells #[.slice none 0 0] 29)).alloc (.cells #[.slice none 0 0] 29)) := (by repeat (first | exact Below.refl _ _ | assumption | refine Below.alloc ?_ (by first | exact Nat.le_refl _ | (simp only [World.size_alloc, World.size_setCell, World.size_drew]; omega) | omega) _ | refine Below.setCell ?_ (by first | exact Nat.le_refl _ | (simp only [World.size_alloc, World.size_setCell, World.size_drew]; omega) | omega) _ | refine Below.drew ?_))
  have hV := hV0.alloc (.cells #[.slice none 0 0] 29)
  clear hV0
  simp only [World.size_alloc] at hV hO
  have HX := Lib.hid hx
  clear hx
  go_enter Try.func102, Try.ntmps102
  go_wp2_with fail
  go_loopw [10] (fun i wr => ∃ (k : Nat) (v : Value) (vl : List Value), k ≤ n ∧ i = .int .i64 k ∧ Var1 wr (w.heap.size + 2) v ∧ RowsP wr (w.heap.size + 3) v vl (sqM f k m) ∧ Var1 wr (w.heap.size + 1) (.slice none 0 0) ∧ Below w.heap.size w wr) (fun i _ => n - (intOf i).toNat)
  case atStart => exact ⟨0, .slice none 0 0, [], Nat.zero_le _, rfl, hO, RowsP.nil _ _, hV, hb0⟩
  case round =>
    clear hV hO hb0
    obtain ⟨k, v, vl, hk, rfl, hO, hro, hV, hb⟩ := hrel
    have hbs := hb.size
    have ⟨⟨zO, cO⟩, fO⟩ := hO
    obtain ⟨av, cv, ev⟩ := hro.o.form
    rw [sqM_len] at ev
    subst ev
    have HRO := Lib.hid hro
    have HO := Lib.hid hO
    have HV := Lib.hid hV
    by_cases hlt : k < n
    · obtain ⟨b0, off0, a', cap', rfl, hbl, hc, hr⟩ := (HX.out.below hb).row k (by rw [sqM_len]; exact hlt)
      rw [sqM_row hlt, fmap_len] at hc
      rw [sqM_row hlt] at hr
      have k1 : (k : Int) < (n : Int) := by omega
      have HN : Hid (sqM f (k+1) m = sqM f k m ++ [fmap (f k) m]) := sqM_succ _ _ _
      have HC : Hid (∀ W, Below wr.heap.size wr W → Calls Try.prog 103 #[.slice a' m cap'] W fun e w' => ∃ a2 c2, e = .returned (.slice a2 m c2) ∧ OwnI w' W.heap.size (.slice a2 m c2) (fmap (f k) m) ∧ Below W.heap.size W w') := fun W h => by
        have h1 := l1Own_any a' (fmap (f k) m) cap' W (hr.below h) (by rw [fmap_len]; omega)
        rw [fmap_len] at h1
        exact h1
      have hsz : w.heap.size + 3 ≤ wr.heap.size := by omega
      clear hro hO hV hr
      go_wp2_with fail
      go_region_law (first | (have _g := HR2; refine step_push_row (by rfl) _ _ (by rfl) (by rfl) (by rfl) (HR2.out.below ((Below.refl _ _).alloc (Nat.le_refl _) _) (Nat.le_refl _)) (sqM_len _ _ _) (ho2.alloc _) (by simp) (by omega) (by omega) (by simp; omega) (HRO.out.blk.1) (HRO.out.blk.2) ?_; intro g5 c5 w5 ho5 hg5; have hg6 := grown_alloc_set hg5; have hO5 := HO2.out.kept hg6 (ne_own (fun c e => by have := (HR2.out.o.lt c e).1; omega)); have ⟨⟨zO5, cO5⟩, fO5⟩ := hO5) | (go_simp; go_at_call 103; refine (HC.out _ (Joins.below_draws _ _ _)).mono ?_; rintro e w2 ⟨a2, c2, rfl, ho2', hb2⟩; have ht2 := (Joins.below_draws _ _ _).trans hb2; have hs2 := ht2.size; have ho2 := ho2'.mono (B' := wr.heap.size) (by simp); have HR2 := Lib.hid (HRO.out.below ht2 (Nat.le_refl _)); have HO2 := Lib.hid (HO.out.below ht2); have ⟨⟨zO2, cO2⟩, fO2⟩ := HO2.out; clear ho2' hb2))
      all_goals
        have hlo := HR2.out.o.lt
        have hV5 := (HV.out.below ht2).kept hg6 (ne_own (fun c e => by have := (hlo c e).1; omega))
        have b5 : Below w.heap.size w w5 := (hb.trans (ht2.mono hbs)).trans (below_of_grown hg6 (fun c e => by have := (hlo c e).1; omega) (by omega))
        have ho6 := ho5.setBelow (p := ⟨w.heap.size + 2, 0, none⟩) (show w.heap.size + 2 < w.heap.size + 3 by omega) (.slice (some ⟨g5, 0, none⟩) (k + 1) c5)
        have hO6 := hO5.set (.slice (some ⟨g5, 0, none⟩) (k + 1) c5)
        have hV6 := hV5.other (p := ⟨w.heap.size + 2, 0, none⟩) (.slice (some ⟨g5, 0, none⟩) (k + 1) c5) (show w.heap.size + 1 ≠ w.heap.size + 2 by omega)
        have b6 := b5.setCell (p := ⟨w.heap.size + 2, 0, none⟩) (show w.heap.size ≤ w.heap.size + 2 by omega) (.slice (some ⟨g5, 0, none⟩) (k + 1) c5)
        have H6 := Lib.hid (And.intro ho6 (And.intro hO6 (And.intro hV6 b6)))
        clear ho5 hg5 hg6 hlo hO5 hV5 ho6 hO6 hV6 HR2 ho2 HO2
        go_wp2_with fail
        go_roundw
        case rel => exact ⟨k + 1, _, _, by omega, by go_num, H6.out.2.1, by rw [HN.out]; exact H6.out.1, H6.out.2.2.1, H6.out.2.2.2⟩
        case measure => simp [intOf]; omega
    · obtain rfl : k = n := by omega
      have ⟨⟨zV, cV⟩, fV⟩ := hV
      clear hro hO hV
      go_wp2_with fail
      have hV2 := HV.out.set (.slice av k cv)
      have b2 := hb.setCell (p := ⟨w.heap.size + 1, 0, none⟩) (by simp) (.slice av k cv)
      refine bodyPost_ret (v := .agg #[.slice av k cv]) (by have ⟨⟨_, q1⟩, _⟩ := hV2; simp [results, Try.results102, go_sem, q1]) rfl ?_
      exact ⟨av, cv, vl, rfl, (HRO.out.setBelow (show w.heap.size + 1 < w.heap.size + 3 by omega) _).mono (by omega), b2⟩

theorem OwnI.new (w : World) (xs : List Int) (h : xs.length ≤ 1048576) : OwnI (w.alloc (.cells (xs.map (Value.int .i64)).toArray 3)) w.heap.size (.slice (some ⟨w.heap.size, 0, none⟩) xs.length xs.length) xs :=
  ⟨by simp, .inr ⟨w.heap.size, xs.length, (xs.map (Value.int .i64)).toArray, rfl, Nat.le_refl _, heap_alloc_new w _, Nat.le_refl _, by unfold maxLen; omega, by simp, by simp [List.take_of_length_le]⟩⟩

theorem lit_own (w : World) (x : Int) (B : Nat) (hB : B ≤ w.heap.size) : (w.alloc (.cells #[.int .i64 x] 3)).ownsRow B 3 1 (.slice (some ⟨w.heap.size, 0, none⟩) 1 1) 1 [.int .i64 x] := by
  have h := (OwnI.new w [x] (by simp)).mono hB
  exact h

/-- an append of a whole slice of integers, a nil one too, at a step of a region that draws its order -/
theorem step_append_src {P : Program} {w : World} {ops : Array Oper} {o : Oper} {a : Act} {K : Act → World → Prop} {Q : Exit → Act → World → Prop} {E : Prop} (hgd : o.guard = none) (s x : Operand) (t : TypeId)
    (ho : o.op = .call { callee := .builtin .append, args := #[s, x], argTypes := #[t, t] })
    (base : Nat) (e : TypeId) (i : TypeInfo) (z : Value) (bytes : Nat) (ht : P.underlying t = some (.slice e)) (hi : P.info? e = some i) (hz : i.zero = some z)
    (hsize : i.size = 1) (hby : i.bytes = bytes) (hzs : z.cells.size = 1)
    (v : Value) (n : Nat) (xs : List Value) (hs : a.eval s = v) (hown : w.ownsRow base e 1 v n xs)
    (ad : Option Addr) (c : Nat) (R : List Int) (hx : a.eval x = .slice ad R.length c) (hrd : Rd w ad R)
    (h63 : n + R.length ≤ maxLen) (hbytes : (n + R.length) * bytes ≤ 140737488355328) (hbase : base ≤ w.heap.size)
    (h : ∀ v' w', w'.ownsRow base e 1 v' (n + R.length) (xs ++ R.map (Value.int .i64)) → w.grownBy w' v.ownBlock → K (a.put o.dst v') w') :
    if Region.wanted o (yielded ops a.tmps) = true then Oper.wp P o a w K Q else E := by
  have hw : Region.wanted o (yielded ops a.tmps) = true := by simp [Region.wanted, hgd]
  rw [if_pos hw]
  cases ad with
  | some ad => exact wp_append_own w s x t ho base e i z 1 bytes ht hi hz hsize hby hzs (by omega) v n xs hs hown ad R.length c (R.map (Value.int .i64)) hx (by rw [List.length_map, Nat.mul_one]) (rd_news hrd) (ints_one R) h63 hbytes hbase (fun v' w' h2 h3 _ => h v' w' h2 h3)
  | none =>
    have hR : R = [] := by
      rcases R with _ | ⟨y, ys⟩
      · rfl
      · obtain ⟨b, off, e, _⟩ := hrd.cell 0 (by simp)
        cases e
    subst hR
    have hrun : (Builtin.append_ #[t, t] o.type #[v, .slice none 0 c]).run P w = .ok v w := by
      rcases hown.2 with ⟨rfl, rfl⟩ | ⟨g, cap, cur, rfl, _, _, hnc, _⟩
      · simp [Builtin.append_, run_underlying ht, sizeOf, typeInfo, hi, Builtin.lenOf, Builtin.firstCells]
      · simp [Builtin.append_, run_underlying ht, sizeOf, typeInfo, hi, Builtin.lenOf, Builtin.firstCells, hnc, storeCells]
    have h2 := h v w (by simpa using hown) (World.grownBy.refl _ _)
    have hx' : a.eval x = .slice none 0 c := hx
    unfold Oper.wp
    simp [execOp, ho, resolve, invoke, builtin, hs, hx', hrun, Result.andThen]
    exact h2

theorem Rd.drop {w : World} {ad : Addr} {xs : List Int} (h : Rd w (some ad) xs) (k : Nat) : Rd w (some (ad.add k)) (xs.drop k) :=
  ⟨Nat.le_trans (by rw [List.length_drop]; omega) h.len, fun j hj => by
    have hj' : k + j < xs.length := by rw [List.length_drop] at hj; omega
    obtain ⟨b, off, e, hl, hc⟩ := h.cell (k + j) hj'
    simp only [Option.some.injEq] at e
    subst e
    refine ⟨b, off + k, by rw [Addr.add_lit], hl, ?_⟩
    rw [Nat.add_assoc, hc]
    simp [nth, List.getD_eq_getElem?_getD, List.getElem?_drop]⟩

set_option maxRecDepth 100000 in
theorem maNarrow_any (a : Option Addr) (xs : List Int) (cap x B : Nat) (w : World) (ho : OwnI w B (.slice a xs.length cap) xs) (hB : B ≤ w.heap.size) (hx : x < xs.length) (hn : xs.length ≤ 13) :
    Calls Try.prog 104 #[.slice a xs.length cap, .int .i64 (x : Int)] w fun e w' => ∃ a' c', e = .returned (.slice a' (xs.length - 1) c') ∧ OwnI w' w.heap.size (.slice a' (xs.length - 1) c') (xs.take x ++ xs.drop (x+1)) ∧ Below w.heap.size w w' := by
  obtain ⟨i0, hi, hz0, hz1, hz2⟩ := info_parts infoInt
  have hcap := ho.capLe
  have HX := Lib.hid ho.rd
  obtain ⟨b, off, rfl, hbl, _⟩ := ho.rd.cell 0 (by omega)
  obtain ⟨J, hJ⟩ : ∃ J, J = x + 1 := ⟨_, rfl⟩
  have HJ := Lib.hid hJ
  have hcast : ((x : Int) + 1) = (J : Int) := by omega
  have hJn : J ≤ xs.length := by omega
  have hJc : J ≤ cap := by omega
  have hxc : x ≤ cap := by omega
  have hxn : x ≤ xs.length := by omega
  have HD : Hid (xs.take x ++ xs.drop (x+1) = xs.take x ++ xs.drop J) := by rw [hJ]; rfl
  have HL : Hid ((xs.take x ++ xs.drop J).length = xs.length - 1) := by rw [Hid, List.length_append, List.length_take, List.length_drop]; omega
  have HOT : Hid (∀ W, Below w.heap.size w W → Calls Try.prog 103 #[.slice (some ⟨b, off, none⟩) x cap] W fun e w' => ∃ a2 c2, e = .returned (.slice a2 x c2) ∧ OwnI w' W.heap.size (.slice a2 x c2) (xs.take x) ∧ Below W.heap.size W w') := fun W h => by
    have h1 := l1Own_any (some ⟨b, off, none⟩) (xs.take x) cap W ((HX.out.below h).take x) (by rw [List.length_take]; omega)
    rw [show (xs.take x).length = x by rw [List.length_take]; omega] at h1
    exact h1
  have HDR : Hid (∀ W A, Below w.heap.size w W → (if cap = J then some (⟨b, off, none⟩ : Addr) else some ⟨b, off + J, none⟩) = some A → Rd W (some A) (xs.drop J)) := fun W A hb hA => by
    have h1 := (HX.out.below hb).drop J
    by_cases h9 : cap = J
    · rw [if_pos h9] at hA
      have e : xs.drop J = [] := List.drop_eq_nil_of_le (by omega)
      rw [e]
      exact ⟨by simp, fun k hk => by simp at hk⟩
    · rw [if_neg h9] at hA
      simp only [Option.some.injEq] at hA
      subst hA
      rw [Addr.add_lit] at h1
      exact h1
  obtain ⟨A, hA⟩ : ∃ A : Addr, (if cap = J then some (⟨b, off, none⟩ : Addr) else some ⟨b, off + J, none⟩) = some A := by
    by_cases h9 : cap = J
    · exact ⟨_, if_pos h9⟩
    · exact ⟨_, if_neg h9⟩
  have HA := Lib.hid hA
  have htl : (xs.take x).length = x := by rw [List.length_take]; omega
  have HTL := Lib.hid htl
  have hxJ : x + (xs.length - J) = xs.length - 1 := by omega
  have HXJ := Lib.hid hxJ
  have hwr : IntKind.i64.wrap (J : Int) = (J : Int) := by rw [i64_wrap, IntWalk.wrap64_in _ ⟨by omega, by omega⟩]
  clear hJ ho htl hxJ
  go_enter Try.func104, Try.ntmps104
  go_wp2_with fail
  go_region_law (first | (have _g := ho2; refine step_append_src (by rfl) _ _ _ (by rfl) w.heap.size 3 i0 (.int .i64 0) 8 Try.underlying26 hi hz0 hz1 hz2 rfl (.slice a2 x c2) x ((xs.take x).map (Value.int .i64)) (by rfl) (by first | exact ho2 | exact ownsRow_bel ho2 (Below.refl _ _).drew (Nat.le_refl _)) (some A) (cap - J) (xs.drop J) (by simp [Act.eval, Act.put]) (HDR.out _ A (by first | exact ht2 | exact ht2.drew) HA.out) (by rw [List.length_drop]; unfold maxLen; omega) (by rw [List.length_drop]; omega) (by have := ht2.size; omega) ?_; intro v3 w3 ho3 hg3) | (go_simp; go_at_call 103; refine (HOT.out _ (Joins.below_draws _ _ _)).mono ?_; rintro e w2 ⟨a2, c2, rfl, ho2', hb2⟩; have ht2 := (Joins.below_draws _ _ _).trans hb2; have ho2 : w2.ownsRow w.heap.size 3 1 (.slice a2 x c2) x ((xs.take x).map (Value.int .i64)) := (by have h := ho2'.mono (B' := w.heap.size) (by simp); unfold OwnI at h; rw [HTL.out] at h; exact h); clear ho2' hb2))
  all_goals
    have hU := World.ownsRow.lt ho2
    have b3 : Below w.heap.size w w3 := ht2.trans (below_of_grown hg3 (fun c e => (hU c e).1) ht2.size)
    have o3 : OwnI w3 w.heap.size v3 (xs.take x ++ xs.drop J) := by
      unfold OwnI
      rw [List.map_append, List.length_append, HTL.out]
      exact ho3
    obtain ⟨a3, c3, e3⟩ := o3.form
    rw [HL.out] at e3
    subst e3
    clear ho3 hg3 hU ho2
    go_wp2_with fail
    go_ret
    exact ⟨a3, c3, rfl, by rw [HD.out]; exact o3, b3⟩

set_option maxRecDepth 100000 in
theorem maTop_any (a : Option Addr) (xss : List (List Int)) (cap : Nat) (w : World) (hx : RdS w a xss) (hm : mxB xss = true) :
    Calls Try.prog 101 #[.agg #[.slice a xss.length cap]] w fun e w' => e = .returned (.int .i64 (topI xss)) ∧ Below w.heap.size w w' := by
  have HM := Lib.hid hm
  have h12 := mxB_small hm
  have HX := Lib.hid hx
  clear hm
  go_enter Try.func101, Try.ntmps101
  go_wp2_with fail
  go_loop [8] (fun i => ∃ k : Nat, k ≤ xss.length ∧ i = .int .i64 k ∧ Hid (∀ j, j < k → atM xss j (xss.length - 1) = 0)) (fun i => xss.length - (intOf i).toNat)
  case atStart => exact ⟨0, Nat.zero_le _, rfl, fun j hj => by omega⟩
  case round =>
    obtain ⟨k, hk, rfl, HZ⟩ := hrel
    by_cases hlt : k < xss.length
    · obtain ⟨b, off, a', cap', rfl, hbl, hc, hr⟩ := (HX.out.below (show Below w.heap.size w (w.alloc (.cells #[.slice a xss.length cap] 29)) from (by repeat (first | exact Below.refl _ _ | assumption | refine Below.alloc ?_ (by first | exact Nat.le_refl _ | (simp only [World.size_alloc, World.size_setCell, World.size_drew]; omega) | omega) _ | refine Below.setCell ?_ (by first | exact Nat.le_refl _ | (simp only [World.size_alloc, World.size_setCell, World.size_drew]; omega) | omega) _ | refine Below.drew ?_)))).row k hlt
      have hrl := mxB_len HM.out hlt
      obtain ⟨b2, off2, rfl, hbl2, hc2⟩ := hr.cell (xss.length - 1) (by omega)
      rw [hrl] at hc
      have k1 : (k : Int) < (xss.length : Int) := by omega
      have hcast : ((xss.length : Int) - 1) = ((xss.length - 1 : Nat) : Int) := by omega
      have hnn := (mxB_num HM.out (j := xss.length - 1) hlt (by omega)).1
      have HA : Hid (atM xss k (xss.length - 1) = nth (rowL xss k) (xss.length - 1)) := rfl
      rw [HA.out] at hnn
      by_cases hp : 0 < nth (rowL xss k) (xss.length - 1)
      · have H : Hid (topI xss = (k : Int)) := by
          rw [Hid, topI, if_neg (by omega), topN, firstNZ_at HZ.out (by rw [HA.out]; omega) hlt]
        clear hrl hr
        go_wp2_with fail
        go_ret
        exact ⟨ret_int H.out.symm, (by repeat (first | exact Below.refl _ _ | assumption | refine Below.alloc ?_ (by first | exact Nat.le_refl _ | (simp only [World.size_alloc, World.size_setCell, World.size_drew]; omega) | omega) _ | refine Below.setCell ?_ (by first | exact Nat.le_refl _ | (simp only [World.size_alloc, World.size_setCell, World.size_drew]; omega) | omega) _ | refine Below.drew ?_))⟩
      · have HN : Hid (atM xss k (xss.length - 1) = 0) := by rw [Hid, HA.out]; omega
        clear hrl hr
        go_wp2_with fail
        go_round
        case rel =>
          refine ⟨k + 1, by omega, by go_num, fun j hj => ?_⟩
          by_cases e : j = k
          · rw [e]; exact HN.out
          · exact HZ.out j (by omega)
        case measure => simp [intOf]; omega
    · obtain rfl : k = xss.length := by omega
      have H : Hid (topI xss = -1) := by
        by_cases e : xss.length = 0
        · rw [Hid, topI, if_pos e]
        · exfalso
          have h1 := topN_lt HM.out (by omega)
          rw [topN, firstNZ_all HZ.out] at h1
          omega
      clear hx
      go_wp2_with fail
      go_ret
      exact ⟨ret_int H.out.symm, (by repeat (first | exact Below.refl _ _ | assumption | refine Below.alloc ?_ (by first | exact Nat.le_refl _ | (simp only [World.size_alloc, World.size_setCell, World.size_drew]; omega) | omega) _ | refine Below.setCell ?_ (by first | exact Nat.le_refl _ | (simp only [World.size_alloc, World.size_setCell, World.size_drew]; omega) | omega) _ | refine Below.drew ?_))⟩

theorem maTotal_any (a : Option Addr) (xs : List Int) (cap : Nat) (w : World) (hx : Rd w a xs) (hs : xs.length ≤ 1048576) (hv : ∀ j, j < xs.length → 0 ≤ nth xs j ∧ nth xs j ≤ 12) :
    Calls Try.prog 88 #[.slice a xs.length cap] w fun e w' => e = .returned (.int .i64 (totR xs)) ∧ w = w' := by
  have HV := Lib.hid hv
  have HB : Hid (∀ k, k ≤ xs.length → 0 ≤ totI xs k ∧ totI xs k ≤ 12 * (k : Int)) := by
    intro k
    induction k with
    | zero => intro _; simp [totI]
    | succ k ih =>
      intro hk
      have h1 := ih (by omega)
      have h2 := hv k (by omega)
      rw [totI]; omega
  clear hv
  go_enter Try.func88, Try.ntmps88
  go_wp2_with fail
  go_loop [3, 8] (fun m i => ∃ k : Nat, k ≤ xs.length ∧ i = .int .i64 k ∧ m = .int .i64 (totI xs k)) (fun _ i => xs.length - (intOf i).toNat)
  case atStart => exact ⟨0, Nat.zero_le _, rfl, rfl⟩
  case round =>
    obtain ⟨k, hk, rfl, rfl⟩ := hrel
    have ⟨h1, h2⟩ := HB.out k hk
    by_cases hlt : k < xs.length
    · obtain ⟨b, off, rfl, hbl, hc⟩ := hx.cell k hlt
      have ⟨h3, h4⟩ := HV.out k hlt
      have HN : Hid (totI xs (k+1) = totI xs k + nth xs k) := rfl
      go_wp2_with fail
      go_round
      case rel => exact ⟨k + 1, by omega, by go_num, val_int (by rw [HN.out])⟩
      case measure => simp [intOf]; omega
    · obtain rfl : k = xs.length := by omega
      go_wp2_with fail
      go_ret
      exact ⟨rfl, rfl⟩

set_option maxRecDepth 100000 in
set_option maxHeartbeats 2000000 in
theorem maShrink_any (a : Option Addr) (xss : List (List Int)) (cap : Nat) (w : World) (hx : RdC w a xss) (hm : topB xss = true) :
    Calls Try.prog 75 #[.agg #[.slice a xss.length cap]] w fun e w' => ∃ a0 c0 vl, e = .returned (.tuple #[.agg #[.slice a0 (shL xss).length c0], .int .i64 (topV xss)]) ∧ RowsP w' w.heap.size (.slice a0 (shL xss).length c0) vl (shL xss) ∧ Below w.heap.size w w' := by
  have hlen := hx.rd.len
  have hV := Var1.new (w.alloc (.cells #[.slice a xss.length cap] 29)) (.slice none 0 0) 29
  have hb0 : Below w.heap.size w ((w.alloc (.cells #[.slice a xss.length cap] 29)).alloc (.cells #[.slice none 0 0] 29)) := (by repeat (first | exact Below.refl _ _ | assumption | refine Below.alloc ?_ (by first | exact Nat.le_refl _ | (simp only [World.size_alloc, World.size_setCell, World.size_drew]; omega) | omega) _ | refine Below.setCell ?_ (by first | exact Nat.le_refl _ | (simp only [World.size_alloc, World.size_setCell, World.size_drew]; omega) | omega) _ | refine Below.drew ?_))
  have hA : Box1 ((w.alloc (.cells #[.slice a xss.length cap] 29)).alloc (.cells #[.slice none 0 0] 29)) w.heap.size (.slice a xss.length cap) := (Box1.new w _ _).below ((Below.refl _ _).alloc (Nat.le_refl _) _)
  rw [World.size_alloc] at hV
  have ⟨hmx, hpos⟩ := topB_mx hm
  have h12 := mxB_small hmx
  have htl := topN_lt hmx hpos
  have H2 : Hid (topV xss = ((topN xss : Nat) : Int)) := by rw [Hid, topV, hm]; rfl
  have HTI : Hid (topI xss = ((topN xss : Nat) : Int)) := by rw [Hid, topI, if_neg (by omega)]
  have HE := Lib.hid (mx_eta hmx)
  have HNB := Lib.hid (mxB_num hmx htl (j := xss.length - 1) (by omega))
  have HSH : Hid (shL xss = if totR (rowL xss (topN xss)) = 1 then sqM (shF (atM xss) xss.length (topN xss)) (xss.length - 1) (xss.length - 1) else sqM (decF (atM xss) xss.length (topN xss)) xss.length xss.length) := by rw [Hid, shL, if_pos hm]
  have HMT := Lib.hid (fun W (h : RdS W a xss) => maTop_any a xss cap W h hmx)
  have hS1 := (adB_row (mxB_iff.1 hmx).1 htl)
  have HL : Hid (∀ k, k < xss.length → (rowL xss k).length = xss.length) := fun k hk => mxB_len hmx hk
  have HTOT : Hid (∀ W a' cap', Rd W a' (rowL xss (topN xss)) → Calls Try.prog 88 #[.slice a' xss.length cap'] W fun e w' => e = .returned (.int .i64 (totR (rowL xss (topN xss)))) ∧ W = w') := fun W a' cap' hr => by
    have h := maTotal_any a' (rowL xss (topN xss)) cap' W hr (by rw [mxB_len hmx htl]; omega) (fun j hj => mxB_num hmx htl (by rw [mxB_len hmx htl] at hj; exact hj))
    rw [mxB_len hmx htl] at h
    exact h
  have HOWN := Lib.hid (fun W (h : RdS W a xss) => maOwn_any a xss cap xss.length xss.length (atM xss) HE.out W h (by omega) (by omega))
  have hrowE : ∀ k, k < xss.length → rowL xss k = fmap (atM xss k) xss.length := fun k hk => by
    have h := list_fmap (rowL xss k)
    rw [mxB_len hmx hk] at h
    exact h
  have HRE := Lib.hid hrowE
  obtain ⟨T, hT⟩ : ∃ T, T = topN xss := ⟨_, rfl⟩
  rw [← hT] at htl H2 HSH HNB HTI hS1 HTOT
  obtain ⟨S, hS⟩ : ∃ S, S = totR (rowL xss T) := ⟨_, rfl⟩
  rw [← hS] at HSH hS1 HTOT
  obtain ⟨f, hf⟩ : ∃ f, f = atM xss := ⟨_, rfl⟩
  rw [← hf] at HNB HSH HE HOWN HRE
  rw [HTI.out] at HMT
  have HX := Lib.hid hx
  obtain ⟨N, hN⟩ : ∃ N, N = xss.length := ⟨_, rfl⟩
  have HN := Lib.hid hN
  rw [← hN] at hlen hpos h12 htl HNB HSH HE HOWN HRE HTOT HL HMT hV hb0 hA ⊢
  clear hm hmx hx hT hS hf hrowE hN
  have hcast : ((N : Int) - 1) = ((N - 1 : Nat) : Int) := by omega
  have hN1 : N - 1 < N := by omega
  go_enter Try.func75, Try.ntmps75
  go_wp2_with fail
  refine (HMT.out _ (HX.out.rd.below hb0)).mono ?_
  rintro e w1 ⟨rfl, hb⟩
  have b1 : Below w.heap.size w w1 := hb0.trans (hb.mono (by simp; omega))
  have hV1 := hV.below hb
  have hA1 := hA.below hb
  have ⟨zA1, cA1⟩ := hA1
  have hz1 : w.heap.size + 2 ≤ w1.heap.size := by have := hb.size; simp at this; omega
  obtain ⟨b0, off0, a', cap', rfl, hbl, hc, hr⟩ := (HX.out.rd.below b1).row T (by rw [← HN.out]; exact htl)
  rw [HL.out T htl] at hc
  have HR := Lib.hid hr
  have HV1 := Lib.hid hV1
  clear hb hV hA hb0 hr hV1 HMT
  go_wp2_with fail
  refine (HTOT.out _ _ _ HR.out).mono ?_
  rintro e w' ⟨rfl, rfl⟩
  by_cases hSS : S = 1
  · rw [if_pos hSS] at HSH
    have hgt : ¬ 1 < S := by omega
    have hO1 := Var1.new w1 (.slice none 0 0) 29
    have bb1 : Below w1.heap.size w1 (w1.alloc (.cells #[.slice none 0 0] 29)) := (by repeat (first | exact Below.refl _ _ | assumption | refine Below.alloc ?_ (by first | exact Nat.le_refl _ | (simp only [World.size_alloc, World.size_setCell, World.size_drew]; omega) | omega) _ | refine Below.setCell ?_ (by first | exact Nat.le_refl _ | (simp only [World.size_alloc, World.size_setCell, World.size_drew]; omega) | omega) _ | refine Below.drew ?_))
    have HV2 := Lib.hid (HV1.out.below bb1)
    have HO1 := Lib.hid hO1
    have HB1 := Lib.hid (b1.trans (bb1.mono b1.size))
    have hA2 := hA1.below bb1
    have ⟨zA2, cA2⟩ := hA2
    obtain ⟨b4, hb4⟩ : ∃ b4, b4 = w1.heap.size := ⟨_, rfl⟩
    have HB4 := Lib.hid hb4
    have hz4 : w.heap.size + 2 ≤ b4 := by omega
    rw [← hb4] at HO1
    clear hb4 hO1 bb1 hSS hA2 HOWN HTOT
    go_wp2_with fail
    go_loopw [42] (fun i wr => ∃ (k m : Nat) (v : Value) (vl : List Value), k ≤ N ∧ i = .int .i64 k ∧ (if k ≤ T then m = k else m + 1 = k) ∧ Var1 wr b4 v ∧ RowsP wr (b4 + 1) v vl (sqM (shF f N T) m (N - 1)) ∧ Var1 wr (w.heap.size + 1) (.slice none 0 0) ∧ Below w.heap.size w wr) (fun i _ => N - (intOf i).toNat)
    case atStart => exact ⟨0, 0, .slice none 0 0, [], Nat.zero_le _, rfl, by rw [if_pos (Nat.zero_le _)], HO1.out, RowsP.nil _ _, HV2.out, HB1.out⟩
    case round =>
      rw [← HB4.out]
      obtain ⟨k, m, v, vl, hk, rfl, hmk, hO, hro, hV, hb⟩ := hrel
      have hbs := hb.size
      have hO9 := hO.1.1
      have HRO := Lib.hid hro
      obtain ⟨av, cv, ev⟩ := hro.o.form
      rw [sqM_len] at ev
      subst ev
      have HO := Lib.hid hO
      have HV := Lib.hid hV
      by_cases hlt : k < N
      · have k1 : (k : Int) < (N : Int) := by omega
        obtain ⟨b5, off5, a5, cap5, e5, hbl5, hc5, hr5⟩ := (HX.out.rd.below hb).row k (by rw [← HN.out]; exact hlt)
        simp only [Option.some.injEq, Addr.mk.injEq, and_true] at e5
        obtain ⟨rfl, rfl⟩ := e5
        rw [HL.out k hlt] at hc5
        rw [HRE.out k hlt] at hr5
        by_cases hkT : k = T
        · have hkk : ((k : Int) == (T : Int)) = true := by simp [hkT]
          have HM : Hid (m = k) := by rw [Hid]; rw [if_pos (by omega)] at hmk; exact hmk
          have HKT := Lib.hid hkT
          clear hkT hmk hro hO hV hr5
          go_wp2_with fail
          go_roundw
          case rel => exact ⟨k + 1, m, _, _, by omega, by go_num, by rw [if_neg (by have := HKT.out; omega), HM.out], HO.out, HRO.out, HV.out, hb⟩
          case measure => simp [intOf]; omega
        · have hkk : ((k : Int) == (T : Int)) = false := by simp; omega
          have HSK : Hid (skp T m = k) := by
            rw [Hid, skp]
            by_cases h9 : k ≤ T
            · rw [if_pos h9] at hmk
              rw [if_pos (by omega)]; exact hmk
            · rw [if_neg h9] at hmk
              rw [if_neg (by omega)]; exact hmk
          have HMK : Hid (if k + 1 ≤ T then m + 1 = k + 1 else m + 1 + 1 = k + 1) := by
            rw [Hid]
            by_cases h9 : k ≤ T
            · rw [if_pos h9] at hmk
              rw [if_pos (by omega)]; omega
            · rw [if_neg h9] at hmk
              rw [if_neg (by omega)]; omega
          have hm13 : m ≤ 12 := by
            by_cases h9 : k ≤ T
            · rw [if_pos h9] at hmk; omega
            · rw [if_neg h9] at hmk; omega
          have HNX : Hid (sqM (shF f N T) (m+1) (N - 1) = sqM (shF f N T) m (N - 1) ++ [fmap (shF f N T m) (N - 1)]) := sqM_succ _ _ _
          have HRW : Hid (fmap (fun b => rowU f N T k (skp T b)) (N - 1) = fmap (shF f N T m) (N - 1)) := shF_row HSK.out
          have HC5 := Lib.hid (l1Own_any a5 (fmap (f k) N) cap5 wr hr5 (by rw [fmap_len]; omega))
          rw [fmap_len] at HC5
          obtain ⟨W1, hW1⟩ : ∃ x : World, x = wr := ⟨_, rfl⟩
          subst hW1
          have hsz : w.heap.size + 2 ≤ W1.heap.size := by omega
          clear hmk hro hO hV hr5
          go_wp2_with fail
          refine HC5.out.mono ?_
          rintro e w2 ⟨a2, c2, rfl, ho2, hb2⟩
          have hs2 := hb2.size
          have hpt : ∃ g2, a2 = some ⟨g2, 0, none⟩ := by
            rcases ho2.2 with ⟨e9, h0⟩ | ⟨g9, cap9, cur9, e9, _⟩
            · rw [fmap_len] at h0; omega
            · simp only [Value.slice.injEq] at e9; exact ⟨g9, e9.1⟩
          obtain ⟨g2, rfl⟩ := hpt
          by_cases hcond : k < T ∧ T < N - 1
          · have ⟨hc1', hc2'⟩ := hcond
            have ho2' : w2.ownsRow W1.heap.size 3 1 (.slice (some ⟨g2, 0, none⟩) N c2) N ((fmap (f k) N).map (Value.int .i64)) := by
              have h := ho2
              unfold OwnI at h
              rw [fmap_len] at h
              exact h
            have hst := World.ownsRow.stored ho2' (N - 1) (.int .i64 (f k T))
            have hseq : (fmap (f k) N).set (N - 1) (f k T) = fmap (rowU f N T k) N := by
              rw [list_fmap ((fmap (f k) N).set (N - 1) (f k T))]
              simp only [List.length_set, fmap_len]
              refine fmap_ext (fun b hb => ?_)
              rw [nth_setM (by rw [fmap_len]; exact hN1), fmap_nth _ hb, rowU]
              by_cases e : b = N - 1
              · rw [if_pos e, if_pos ⟨⟨hc1', hc2'⟩, e⟩]
              · rw [if_neg e, if_neg (fun h => e h.2)]
            rw [← List.map_set, hseq] at hst
            have hcT : w2.cell? ⟨g2, T, none⟩ = some (.int .i64 (f k T)) := by
              rw [World.ownsRow.cellAt ho2' T (by omega)]
              simp [fmap, htl]
            have hcN : w2.cell? ⟨g2, N - 1, none⟩ = some (.int .i64 (f k (N - 1))) := by
              rw [World.ownsRow.cellAt ho2' (N - 1) (by omega)]
              simp [fmap, hN1]
            have hfN := World.ownsRow.frozenAt ho2' (N - 1)
            have hgl := World.ownsRow.lt ho2' g2 rfl
            obtain ⟨P, hP⟩ : ∃ P, P = f k T := ⟨_, rfl⟩
            obtain ⟨Q, hQ⟩ : ∃ Q, Q = f k (N - 1) := ⟨_, rfl⟩
            rw [← hP] at hst hcT
            rw [← hQ] at hcN
            obtain ⟨WC, hWC⟩ : ∃ x : World, x = w2.setCell ⟨g2, N - 1, none⟩ (.int .i64 P) := ⟨_, rfl⟩
            have HU : Hid (OwnI WC W1.heap.size (.slice (some ⟨g2, 0, none⟩) N c2) (fmap (rowU f N T k) N)) := by
              rw [Hid, hWC]
              unfold OwnI
              rw [fmap_len]
              exact hst.1
            have bC : Below W1.heap.size W1 WC := by rw [hWC]; exact hb2.setCell (p := ⟨g2, N - 1, none⟩) hgl.1 _
            have hsC : W1.heap.size ≤ WC.heap.size := bC.size
            have t1 : (k : Int) < (T : Int) := by omega
            have t2 : (T : Int) < ((N - 1 : Nat) : Int) := by omega
            clear hst hseq ho2' ho2 hP hQ hcond
            have HNR : Hid (∀ W, Below WC.heap.size WC W → Calls Try.prog 104 #[.slice (some ⟨g2, 0, none⟩) N c2, .int .i64 (T : Int)] W fun e w' => ∃ a' c', e = .returned (.slice a' (N - 1) c') ∧ OwnI w' W.heap.size (.slice a' (N - 1) c') (fmap (shF f N T m) (N - 1)) ∧ Below W.heap.size W w') := fun W h => by
              have h1 := maNarrow_any (some ⟨g2, 0, none⟩) (fmap (rowU f N T k) N) c2 T W1.heap.size W (by rw [fmap_len]; exact HU.out.below h (Nat.le_refl _)) (by have := h.size; omega) (by rw [fmap_len]; exact htl) (by rw [fmap_len]; omega)
              rw [fmap_len, fmap_del htl, HRW.out] at h1
              exact h1
            have hRC := Lib.hid (HRO.out.below bC (Nat.le_refl _))
            have hOC := HO.out.below bC
            have ⟨⟨zOC, cOC⟩, fOC⟩ := hOC
            have HOC := Lib.hid hOC
            have HVC := Lib.hid (HV.out.below bC)
            clear hOC
            subst hWC
            go_wp2_with fail
            go_region_law (first | (have _g := HR2; refine step_push_row (by rfl) _ _ (by rfl) (by rfl) (by rfl) (HR2.out.below ((Below.refl _ _).alloc (Nat.le_refl _) _) (Nat.le_refl _)) (sqM_len _ _ _) (ho3.alloc _) (by simp) (by omega) (by omega) (by simp; omega) (HRO.out.blk.1) (HRO.out.blk.2) ?_; intro g5 c5 w5 ho5 hg5; have hg6 := grown_alloc_set hg5; have hO5 := HO3.out.kept hg6 (ne_own (fun c e => by have := (HR2.out.o.lt c e).1; omega)); have ⟨⟨zO5, cO5⟩, fO5⟩ := hO5) | (go_simp; go_at_call 104; refine (HNR.out _ (Joins.below_draws _ _ _)).mono ?_; rintro e w3 ⟨a3, c3, rfl, ho3', hb3⟩; have ht3 := (Joins.below_draws _ _ _).trans hb3; have hs3 := ht3.size; have ho3 := ho3'.mono (B' := W1.heap.size) (by simp; omega); have HR2 := Lib.hid (hRC.out.below ht3 (Nat.le_refl _)); have HO3 := Lib.hid (HOC.out.below ht3); have ⟨⟨zO3, cO3⟩, fO3⟩ := HO3.out; clear ho3' hb3))
            all_goals
              have hlo := HR2.out.o.lt
              have hV5 := (HVC.out.below ht3).kept hg6 (ne_own (fun c e => by have := (hlo c e).1; omega))
              have b5 : Below w.heap.size w w5 := ((hb.trans (bC.mono hbs)).trans (ht3.mono (Nat.le_trans hbs bC.size))).trans (below_of_grown hg6 (fun c e => by have := (hlo c e).1; omega) (by omega))
              have ho6 := ho5.setBelow (p := ⟨b4, 0, none⟩) (show b4 < b4 + 1 by omega) (.slice (some ⟨g5, 0, none⟩) (m + 1) c5)
              have hO6 := hO5.set (.slice (some ⟨g5, 0, none⟩) (m + 1) c5)
              have hV6 := hV5.other (p := ⟨b4, 0, none⟩) (.slice (some ⟨g5, 0, none⟩) (m + 1) c5) (show w.heap.size + 1 ≠ b4 by omega)
              have b6 := b5.setCell (p := ⟨b4, 0, none⟩) (show w.heap.size ≤ b4 by omega) (.slice (some ⟨g5, 0, none⟩) (m + 1) c5)
              have H6 := Lib.hid (And.intro ho6 (And.intro hO6 (And.intro hV6 b6)))
              clear ho5 hg5 hg6 hlo hO5 hV5 ho6 hO6 hV6 HR2 ho3 HO3
              go_wp2_with fail
              go_roundw
              case rel => exact ⟨k + 1, m + 1, _, _, by omega, by go_num, HMK.out, H6.out.2.1, by rw [HNX.out]; exact H6.out.1, H6.out.2.2.1, H6.out.2.2.2⟩
              case measure => simp [intOf]; omega
          · have hueq : fmap (f k) N = fmap (rowU f N T k) N := fmap_ext (fun b hb => by rw [rowU, if_neg (fun h => hcond h.1)])
            obtain ⟨WC, hWC⟩ : ∃ x : World, x = w2 := ⟨_, rfl⟩
            have HU : Hid (OwnI WC W1.heap.size (.slice (some ⟨g2, 0, none⟩) N c2) (fmap (rowU f N T k) N)) := by
              rw [Hid, hWC, ← hueq]
              have h := ho2
              unfold OwnI at h ⊢
              rw [fmap_len] at h ⊢
              exact h
            have bC : Below W1.heap.size W1 WC := by rw [hWC]; exact hb2
            have hsC : W1.heap.size ≤ WC.heap.size := bC.size
            by_cases hc1' : k < T
            · have t1 : (k : Int) < (T : Int) := by omega
              have t2 : ¬ (T : Int) < ((N - 1 : Nat) : Int) := fun h => hcond ⟨hc1', by omega⟩
              clear hueq ho2 hcond
              have HNR : Hid (∀ W, Below WC.heap.size WC W → Calls Try.prog 104 #[.slice (some ⟨g2, 0, none⟩) N c2, .int .i64 (T : Int)] W fun e w' => ∃ a' c', e = .returned (.slice a' (N - 1) c') ∧ OwnI w' W.heap.size (.slice a' (N - 1) c') (fmap (shF f N T m) (N - 1)) ∧ Below W.heap.size W w') := fun W h => by
                have h1 := maNarrow_any (some ⟨g2, 0, none⟩) (fmap (rowU f N T k) N) c2 T W1.heap.size W (by rw [fmap_len]; exact HU.out.below h (Nat.le_refl _)) (by have := h.size; omega) (by rw [fmap_len]; exact htl) (by rw [fmap_len]; omega)
                rw [fmap_len, fmap_del htl, HRW.out] at h1
                exact h1
              have hRC := Lib.hid (HRO.out.below bC (Nat.le_refl _))
              have hOC := HO.out.below bC
              have ⟨⟨zOC, cOC⟩, fOC⟩ := hOC
              have HOC := Lib.hid hOC
              have HVC := Lib.hid (HV.out.below bC)
              clear hOC
              subst hWC
              go_wp2_with fail
              go_region_law (first | (have _g := HR2; refine step_push_row (by rfl) _ _ (by rfl) (by rfl) (by rfl) (HR2.out.below ((Below.refl _ _).alloc (Nat.le_refl _) _) (Nat.le_refl _)) (sqM_len _ _ _) (ho3.alloc _) (by simp) (by omega) (by omega) (by simp; omega) (HRO.out.blk.1) (HRO.out.blk.2) ?_; intro g5 c5 w5 ho5 hg5; have hg6 := grown_alloc_set hg5; have hO5 := HO3.out.kept hg6 (ne_own (fun c e => by have := (HR2.out.o.lt c e).1; omega)); have ⟨⟨zO5, cO5⟩, fO5⟩ := hO5) | (go_simp; go_at_call 104; refine (HNR.out _ (Joins.below_draws _ _ _)).mono ?_; rintro e w3 ⟨a3, c3, rfl, ho3', hb3⟩; have ht3 := (Joins.below_draws _ _ _).trans hb3; have hs3 := ht3.size; have ho3 := ho3'.mono (B' := W1.heap.size) (by simp; omega); have HR2 := Lib.hid (hRC.out.below ht3 (Nat.le_refl _)); have HO3 := Lib.hid (HOC.out.below ht3); have ⟨⟨zO3, cO3⟩, fO3⟩ := HO3.out; clear ho3' hb3))
              all_goals
                have hlo := HR2.out.o.lt
                have hV5 := (HVC.out.below ht3).kept hg6 (ne_own (fun c e => by have := (hlo c e).1; omega))
                have b5 : Below w.heap.size w w5 := ((hb.trans (bC.mono hbs)).trans (ht3.mono (Nat.le_trans hbs bC.size))).trans (below_of_grown hg6 (fun c e => by have := (hlo c e).1; omega) (by omega))
                have ho6 := ho5.setBelow (p := ⟨b4, 0, none⟩) (show b4 < b4 + 1 by omega) (.slice (some ⟨g5, 0, none⟩) (m + 1) c5)
                have hO6 := hO5.set (.slice (some ⟨g5, 0, none⟩) (m + 1) c5)
                have hV6 := hV5.other (p := ⟨b4, 0, none⟩) (.slice (some ⟨g5, 0, none⟩) (m + 1) c5) (show w.heap.size + 1 ≠ b4 by omega)
                have b6 := b5.setCell (p := ⟨b4, 0, none⟩) (show w.heap.size ≤ b4 by omega) (.slice (some ⟨g5, 0, none⟩) (m + 1) c5)
                have H6 := Lib.hid (And.intro ho6 (And.intro hO6 (And.intro hV6 b6)))
                clear ho5 hg5 hg6 hlo hO5 hV5 ho6 hO6 hV6 HR2 ho3 HO3
                go_wp2_with fail
                go_roundw
                case rel => exact ⟨k + 1, m + 1, _, _, by omega, by go_num, HMK.out, H6.out.2.1, by rw [HNX.out]; exact H6.out.1, H6.out.2.2.1, H6.out.2.2.2⟩
                case measure => simp [intOf]; omega
            · have t1 : ¬ (k : Int) < (T : Int) := by omega
              clear hueq ho2 hcond
              have HNR : Hid (∀ W, Below WC.heap.size WC W → Calls Try.prog 104 #[.slice (some ⟨g2, 0, none⟩) N c2, .int .i64 (T : Int)] W fun e w' => ∃ a' c', e = .returned (.slice a' (N - 1) c') ∧ OwnI w' W.heap.size (.slice a' (N - 1) c') (fmap (shF f N T m) (N - 1)) ∧ Below W.heap.size W w') := fun W h => by
                have h1 := maNarrow_any (some ⟨g2, 0, none⟩) (fmap (rowU f N T k) N) c2 T W1.heap.size W (by rw [fmap_len]; exact HU.out.below h (Nat.le_refl _)) (by have := h.size; omega) (by rw [fmap_len]; exact htl) (by rw [fmap_len]; omega)
                rw [fmap_len, fmap_del htl, HRW.out] at h1
                exact h1
              have hRC := Lib.hid (HRO.out.below bC (Nat.le_refl _))
              have hOC := HO.out.below bC
              have ⟨⟨zOC, cOC⟩, fOC⟩ := hOC
              have HOC := Lib.hid hOC
              have HVC := Lib.hid (HV.out.below bC)
              clear hOC
              subst hWC
              go_wp2_with fail
              go_region_law (first | (have _g := HR2; refine step_push_row (by rfl) _ _ (by rfl) (by rfl) (by rfl) (HR2.out.below ((Below.refl _ _).alloc (Nat.le_refl _) _) (Nat.le_refl _)) (sqM_len _ _ _) (ho3.alloc _) (by simp) (by omega) (by omega) (by simp; omega) (HRO.out.blk.1) (HRO.out.blk.2) ?_; intro g5 c5 w5 ho5 hg5; have hg6 := grown_alloc_set hg5; have hO5 := HO3.out.kept hg6 (ne_own (fun c e => by have := (HR2.out.o.lt c e).1; omega)); have ⟨⟨zO5, cO5⟩, fO5⟩ := hO5) | (go_simp; go_at_call 104; refine (HNR.out _ (Joins.below_draws _ _ _)).mono ?_; rintro e w3 ⟨a3, c3, rfl, ho3', hb3⟩; have ht3 := (Joins.below_draws _ _ _).trans hb3; have hs3 := ht3.size; have ho3 := ho3'.mono (B' := W1.heap.size) (by simp; omega); have HR2 := Lib.hid (hRC.out.below ht3 (Nat.le_refl _)); have HO3 := Lib.hid (HOC.out.below ht3); have ⟨⟨zO3, cO3⟩, fO3⟩ := HO3.out; clear ho3' hb3))
              all_goals
                have hlo := HR2.out.o.lt
                have hV5 := (HVC.out.below ht3).kept hg6 (ne_own (fun c e => by have := (hlo c e).1; omega))
                have b5 : Below w.heap.size w w5 := ((hb.trans (bC.mono hbs)).trans (ht3.mono (Nat.le_trans hbs bC.size))).trans (below_of_grown hg6 (fun c e => by have := (hlo c e).1; omega) (by omega))
                have ho6 := ho5.setBelow (p := ⟨b4, 0, none⟩) (show b4 < b4 + 1 by omega) (.slice (some ⟨g5, 0, none⟩) (m + 1) c5)
                have hO6 := hO5.set (.slice (some ⟨g5, 0, none⟩) (m + 1) c5)
                have hV6 := hV5.other (p := ⟨b4, 0, none⟩) (.slice (some ⟨g5, 0, none⟩) (m + 1) c5) (show w.heap.size + 1 ≠ b4 by omega)
                have b6 := b5.setCell (p := ⟨b4, 0, none⟩) (show w.heap.size ≤ b4 by omega) (.slice (some ⟨g5, 0, none⟩) (m + 1) c5)
                have H6 := Lib.hid (And.intro ho6 (And.intro hO6 (And.intro hV6 b6)))
                clear ho5 hg5 hg6 hlo hO5 hV5 ho6 hO6 hV6 HR2 ho3 HO3
                go_wp2_with fail
                go_roundw
                case rel => exact ⟨k + 1, m + 1, _, _, by omega, by go_num, HMK.out, H6.out.2.1, by rw [HNX.out]; exact H6.out.1, H6.out.2.2.1, H6.out.2.2.2⟩
                case measure => simp [intOf]; omega
      · obtain rfl : k = N := by omega
        have HM : Hid (m = k - 1) := by rw [Hid]; rw [if_neg (by omega)] at hmk; omega
        have ⟨⟨zO, cO⟩, fO⟩ := hO
        have ⟨⟨zV, cV⟩, fV⟩ := hV
        rw [HM.out] at HRO
        rw [HM.out] at cO
        clear hro hO hV hmk
        go_wp2_with fail
        have hV2 := HV.out.set (.slice av (k - 1) cv)
        have b2 := hb.setCell (p := ⟨w.heap.size + 1, 0, none⟩) (by simp) (.slice av (k - 1) cv)
        refine bodyPost_ret (v := .tuple #[.agg #[.slice av (k - 1) cv], .int .i64 (T : Int)]) (by have ⟨⟨_, q1⟩, _⟩ := hV2; simp [results, Try.results75, go_sem, q1]) rfl ?_
        exact ⟨av, cv, vl, by rw [HSH.out, H2.out, sqM_len], by rw [HSH.out, sqM_len]; exact (HRO.out.setBelow (show w.heap.size + 1 < b4 + 1 by omega) _).mono (by omega), b2⟩
  · rw [if_neg hSS] at HSH
    have hgt : 1 < S := by omega
    clear hSS
    go_wp2_with fail
    refine (HOWN.out _ (HX.out.rd.below b1)).mono ?_
    rintro e w2 ⟨a0, c0, vl, rfl, hro, hb2⟩
    have b2 := b1.trans (hb2.mono b1.size)
    have hV2 := (HV1.out.below hb2).alloc (.cells #[.slice a0 N c0] 29)
    have hB2 := Box1.new w2 (.slice a0 N c0) 29
    have b2' := b2.alloc b2.size (.cells #[.slice a0 N c0] 29)
    have hro2 := (hro.below ((Below.refl _ _).alloc (Nat.le_refl _) (.cells #[.slice a0 N c0] 29)) (Nat.le_refl _)).mono (B' := w.heap.size + 2) (by omega)
    have hblk := hro.blk
    obtain ⟨g4, e4, hg4, hg5, hc4, hf4⟩ := hro2.outer (k := T) (by rw [sqM_len]; exact htl)
    subst e4
    obtain ⟨g6, c6, e6, hg6, hg7, hc6, hf6, hnew⟩ := hro2.num (i := T) (j := N - 1) (by rw [sqM_len]; exact htl) (by rw [sqM_rlen htl]; omega)
    have hne6 : g6 ≠ w2.heap.size := fun h => by
      have := hblk.2 T (by rw [sqM_len]; exact htl) g6 (by rw [e6]; rfl)
      omega
    rw [e6, sqM_rlen htl] at hc4
    rw [sqM_at htl hN1] at hc6
    have hset := hnew (f T (N - 1) - 1)
    rw [setM_sq htl hN1] at hset
    have hset2 : RowsP ((w2.alloc (.cells #[.slice (some ⟨g4, 0, none⟩) N c0] 29)).setCell ⟨g6, N - 1, none⟩ (.int .i64 (f T (N - 1) - 1))) (w.heap.size + 2) (.slice (some ⟨g4, 0, none⟩) N c0) vl (sqM (decF f N T) N N) := hset
    have b4 := b2'.setCell (p := ⟨g6, N - 1, none⟩) (show w.heap.size ≤ g6 by omega) (.int .i64 (f T (N - 1) - 1))
    have hV4 := hV2.other (p := ⟨g6, N - 1, none⟩) (.int .i64 (f T (N - 1) - 1)) (show w.heap.size + 1 ≠ g6 by omega)
    have hB4 : Box1 ((w2.alloc (.cells #[.slice (some ⟨g4, 0, none⟩) N c0] 29)).setCell ⟨g6, N - 1, none⟩ (.int .i64 (f T (N - 1) - 1))) w2.heap.size (.slice (some ⟨g4, 0, none⟩) N c0) := hB2.kept (grown_set _ _ _) (by simp; omega)
    have ⟨z0, z9⟩ := HNB.out
    obtain ⟨Z, hZ⟩ : ∃ Z, Z = f T (N - 1) := ⟨_, rfl⟩
    rw [← hZ] at hc6 hset2 b4 hV4 hB4 z0 z9
    have HS4 := Lib.hid hset2
    have HV4 := Lib.hid hV4
    have ⟨⟨zV4, cV4⟩, fV4⟩ := hV4
    have ⟨zB2, cB2⟩ := hB2
    have ⟨zB4, cB4⟩ := hB4
    clear hro hro2 hnew hset hset2 hV2 hV4 hb2 e6 hZ hblk hB2 hB4 cA1
    go_wp2_with fail
    have hV6 := HV4.out.set (.slice (some ⟨g4, 0, none⟩) N c0)
    have b6 := b4.setCell (p := ⟨w.heap.size + 1, 0, none⟩) (by simp) (.slice (some ⟨g4, 0, none⟩) N c0)
    refine bodyPost_ret (v := .tuple #[.agg #[.slice (some ⟨g4, 0, none⟩) N c0], .int .i64 (T : Int)]) (by have ⟨⟨_, q1⟩, _⟩ := hV6; simp [results, Try.results75, go_sem, q1]) rfl ?_
    exact ⟨some ⟨g4, 0, none⟩, c0, vl, by rw [HSH.out, H2.out, sqM_len], by rw [HSH.out, sqM_len]; exact (HS4.out.setBelow (show w.heap.size + 1 < w.heap.size + 2 by omega) _).mono (by omega), b6⟩

theorem wpList_append_rd {w : World} {ops : Array Oper} {rest : List Oper} {o : Oper} {a : Act} {Q : Exit → Act → World → Prop} (hgd : o.guard = none) (s x : Operand)
    (ho : o.op = .call { callee := .builtin .append, args := #[s, x], argTypes := #[26, 26] })
    (base : Nat) (v : Value) (zs : List Int) (hs : a.eval s = v) (hown : OwnI w base v zs) (ad : Option Addr) (xs : List Int) (cap : Nat) (hx : a.eval x = .slice ad xs.length cap) (hr : Rd w ad xs)
    (hsm : zs.length + xs.length ≤ 1000) (hbase : base ≤ w.heap.size)
    (h : ∀ v' w', OwnI w' base v' (zs ++ xs) → w.grownBy w' v.ownBlock → wpList Try.prog ops Q rest (a.put o.dst v') w') : wpList Try.prog ops Q (o :: rest) a w := by
  obtain ⟨i0, hi, hz0, hz1, hz2⟩ := info_parts infoInt
  cases ad with
  | none =>
    have h0 : xs = [] := by
      rcases xs with _ | ⟨y, t⟩
      · rfl
      · obtain ⟨b, off, e, _⟩ := hr.cell 0 (by simp)
        cases e
    subst h0
    exact wpList_append_none hgd s x 26 ho base 3 i0 1 Try.underlying26 hi v zs.length cap (zs.map (Value.int .i64)) hs hown hx (h v w (by rw [List.append_nil]; exact hown) (World.grownBy.refl _ _))
  | some ad =>
    refine wpList_append_own _ hgd s x 26 ho base 3 i0 (.int .i64 0) 1 8 Try.underlying26 hi hz0 hz1 hz2 rfl (by decide) v zs.length (zs.map (Value.int .i64)) hs hown ad xs.length cap (xs.map (Value.int .i64)) hx (by simp) (rd_news hr) (ints_one xs) (by unfold maxLen; omega) (by omega) hbase ?_
    intro v' w' h1 h2 _
    refine h v' w' ?_ h2
    unfold OwnI
    rw [List.length_append, List.map_append]
    exact h1

/-- the set of the indices below k of the lists that have i -/
def belowTo (xs : List Int) (i : Int) : Nat → Nat
  | 0 => 0
  | k+1 => if hasB (nth xs k) i then belowTo xs i k ||| 2 ^ k else belowTo xs i k
theorem belowTo_lt (xs : List Int) (i : Int) : ∀ k, belowTo xs i k < 2 ^ k
  | 0 => by simp [belowTo]
  | k+1 => by
    have h := belowTo_lt xs i k
    have h2 : 2 ^ k < 2 ^ (k+1) := two_lt (by omega)
    simp only [belowTo]
    split
    · exact or_lt (by omega) h2
    · omega
theorem belowTo_small (xs : List Int) (i : Int) {k : Nat} (h : k ≤ 10) : belowTo xs i k < 1024 := by
  have h1 := belowTo_lt xs i k
  have h2 : 2 ^ k ≤ 2 ^ 10 := Nat.pow_le_pow_right (by omega) h
  omega
theorem belowTo_bit (xs : List Int) (i : Int) (j : Nat) : ∀ k, (belowTo xs i k).testBit j = (decide (j < k) && hasB (nth xs j) i)
  | 0 => by simp [belowTo]
  | k+1 => by
    have h := belowTo_bit xs i j k
    simp only [belowTo]
    by_cases hjk : j = k
    · subst hjk
      cases hb : hasB (nth xs j) i
      · simp [h]
      · simp [Nat.testBit_or, testBit_two]
    · have e : decide (j < k + 1) = decide (j < k) := by
        rw [decide_eq_decide]; omega
      rw [e, ← h]
      have hkj : ¬ k = j := fun e => hjk e.symm
      cases hb : hasB (nth xs k) i <;> simp [Nat.testBit_or, testBit_two, hkj]

theorem hasElement_any (s i : Int) (w : World) (h0 : 0 ≤ s) (h1 : s ≤ 9223372036854775807) (hi : 0 ≤ i) :
    Calls Try.prog 85 #[.int .i64 s, .int .i64 i] w fun e w' => e = .returned (.bool (hasB s i)) ∧ w = w' := by
  have H := Lib.hid (has_and h0 h1 hi)
  go_enter Try.func85, Try.ntmps85
  go_wp2
  go_ret
  exact ⟨ret_bool H.out, rfl⟩

end Go.Proofs.Ytapgjgehpjppaaa.ascentOfMatrix
