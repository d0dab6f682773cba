/- PROVED: the law FnExactStairsOf returns true for every input, and each of its arguments reads afterwards as before. No conditions. -/
import Derived.Test.YtbbbfbgdabiamaaRows
import Derived.WalkKit
import Derived.WalkSpells
import Derived.WalkLawsBesides
import Derived.Deep.QuietTactic
import Derived.BigQuiet
import Derived.ProofKit
import Derived.OpenShut
import Derived.ShutString
import Derived.ChangeOld
import Derived.Below
import Derived.Lib.SmallJoins
import Derived.Lib.Hide
import Derived.Maps.AppendAt
import Derived.Lib.SliceRun
import Derived.Deep.RegionHeld3
namespace Go.Proofs.Ytbbbfbgdabiamaa.stairsOf
open Go Go.RowKit
set_option linter.unusedVariables false
set_option linter.unusedSimpArgs false
set_option maxHeartbeats 400000


/-- a number of a list; a plain function, which the walk leaves alone -/
def nth (xs : List Int) (k : Nat) : Int := xs.getD k 0
theorem nth_get (xs : List Int) (k : Nat) (h : k < xs.length) : nth xs k = xs[k] := by simp [nth, h]
/-- the slice at an address reads as a list -/
structure Rd (w : World) (a : Option Addr) (xs : List Int) : Prop where
  len : xs.length ≤ 9223372036854775807
  cell : ∀ k, k < xs.length → ∃ b off, a = some ⟨b, off, none⟩ ∧ b < w.heap.size ∧ w.cell? ⟨b, off + k, none⟩ = some (.int .i64 (nth xs k))
theorem Rd.below {w w' : World} {a : Option Addr} {xs : List Int} (h : Rd w a xs) (hb : Below w.heap.size w w') : Rd w' a xs :=
  ⟨h.len, fun k hk => by
    obtain ⟨b, off, e, hl, hc⟩ := h.cell k hk
    exact ⟨b, off, e, Nat.lt_of_lt_of_le hl hb.size, (hb.cell (World.block_lt_of_cell? _ _ hc)).trans hc⟩⟩
theorem Rd.mid {w w1 w2 : World} {a : Option Addr} {xs : List Int} {B : Nat} (h : Rd w a xs) (hb : Below B w1 w2) (hB : w.heap.size ≤ B) (h1 : Rd w1 a xs) : Rd w2 a xs :=
  ⟨h.len, fun k hk => by
    obtain ⟨b, off, e, hl, hc⟩ := h.cell k hk
    obtain ⟨b', off', e', hl', hc'⟩ := h1.cell k hk
    rw [e] at e'
    simp only [Option.some.injEq, Addr.mk.injEq, and_true] at e'
    obtain ⟨rfl, rfl⟩ := e'
    exact ⟨b, off, e, Nat.lt_of_lt_of_le hl' hb.size, (hb.cell (by show b < B; omega)).trans hc'⟩⟩
theorem Rd.alloc {w : World} {a : Option Addr} {xs : List Int} (h : Rd w a xs) (o : Obj) : Rd (w.alloc o) a xs :=
  h.below ((Below.refl _ _).alloc (Nat.le_refl _) o)
theorem Rd.same {w w' : World} {a : Option Addr} {xs : List Int} (h : Rd w a xs) (hs : w.heap.size ≤ w'.heap.size)
    (hb : ∀ b off, a = some ⟨b, off, none⟩ → w'.heap[b]? = w.heap[b]?) : Rd w' a xs :=
  ⟨h.len, fun k hk => by
    obtain ⟨b, off, e, hl, hc⟩ := h.cell k hk
    exact ⟨b, off, e, Nat.lt_of_lt_of_le hl hs, (World.cell?_of_block (w := w) (a := ⟨b, off + k, none⟩) (hb b off e)).trans hc⟩⟩
/-- a slice value that owns the row of these integers, in a block from B on -/
def OwnI (w : World) (B : Nat) (v : Value) (xs : List Int) : Prop := w.ownsRow B 3 1 v xs.length (xs.map (Value.int .i64))
theorem OwnI.form {w : World} {B : Nat} {v : Value} {xs : List Int} (h : OwnI w B v xs) : ∃ a cap, v = .slice a xs.length cap := by
  rcases h.2 with ⟨rfl, h0⟩ | ⟨g, cap, cur, rfl, _⟩
  · exact ⟨none, 0, by rw [h0]⟩
  · exact ⟨_, _, rfl⟩
theorem OwnI.rd {w : World} {B n cap : Nat} {a : Option Addr} {xs : List Int} (h : OwnI w B (.slice a n cap) xs) : Rd w a xs := by
  rcases h.2 with ⟨e, h0⟩ | ⟨g, cap', cur, e, hb, hg, hn, hm, hs, ht⟩
  · exact ⟨by omega, fun k hk => by omega⟩
  · simp only [Value.slice.injEq] at e
    obtain ⟨rfl, rfl, rfl⟩ := e
    refine ⟨by unfold maxLen at hm; omega, fun k hk => ⟨g, 0, rfl, (Array.getElem?_eq_some_iff.1 hg).1, ?_⟩⟩
    have := World.ownsRow.cellAt h k (by omega)
    rw [Nat.zero_add, this]
    simp [nth, hk]
theorem OwnI.blk {w : World} {B n cap : Nat} {a : Option Addr} {xs : List Int} (h : OwnI w B (.slice a n cap) xs) : ∀ b off s, a = some ⟨b, off, s⟩ → B ≤ b ∧ b < w.heap.size := by
  intro b off s e
  subst e
  exact World.ownsRow.lt h b rfl
theorem OwnI.kept {w w' : World} {B : Nat} {v : Value} {xs : List Int} {row : Option Nat} (h : OwnI w B v xs) (hg : w.grownBy w' row) (hne : v.ownBlock = none ∨ v.ownBlock ≠ row) : OwnI w' B v xs := World.ownsRow.kept h hg hne
theorem OwnI.mono {w : World} {B B' : Nat} {v : Value} {xs : List Int} (h : OwnI w B v xs) (hB : B' ≤ B) : OwnI w B' v xs := by
  refine ⟨h.1, ?_⟩
  rcases h.2 with hn | ⟨g, cap, cur, e, hb, rest⟩
  · exact .inl hn
  · exact .inr ⟨g, cap, cur, e, by omega, rest⟩
theorem OwnI.below {w w' : World} {B B' : Nat} {v : Value} {xs : List Int} (h : OwnI w B v xs) (hb : Below B' w w') (hB : w.heap.size ≤ B') : OwnI w' B v xs := by
  refine ⟨h.1, ?_⟩
  rcases h.2 with hn | ⟨g, cap, cur, e, hb', hg, rest⟩
  · exact .inl hn
  · refine .inr ⟨g, cap, cur, e, hb', ?_, rest⟩
    rw [hb.block g (by have := (Array.getElem?_eq_some_iff.1 hg).1; omega)]
    exact hg
theorem ret_bool {a b : Bool} (h : a = b) : Ending.returned (.bool a) = .returned (.bool b) := by rw [h]
theorem ret_int {a b : Int} (h : a = b) : Ending.returned (.int .i64 a) = .returned (.int .i64 b) := by rw [h]
theorem val_int {a b : Int} (h : a = b) : Value.int .i64 a = .int .i64 b := by rw [h]
theorem grown_below {w w' : World} {g : Nat} (h : w.grownBy w' (some g)) (B : Nat) (hB : B ≤ g) (hs : B ≤ w.heap.size) : Below B w w' :=
  ⟨h.os, h.tape, h.output, h.size, fun k hk => h.block k (by omega) (by intro e; simp only [Option.some.injEq] at e; omega)⟩
theorem below_grown {w w' : World} {B : Nat} (h : Below B w w') (hB : w.heap.size ≤ B) (row : Option Nat) : w.grownBy w' row :=
  ⟨h.os, h.tape, h.output, h.size, fun k hk _ => h.block k (by omega)⟩
theorem bcell {W w1 : World} (hb : Below W.heap.size W w1) : (∀ b o, b < W.heap.size → w1.cell? ⟨b, o, none⟩ = W.cell? ⟨b, o, none⟩) ∧ (∀ b o, b < W.heap.size → w1.frozen? ⟨b, o, none⟩ = W.frozen? ⟨b, o, none⟩) :=
  ⟨fun b o h => hb.cell (p := ⟨b, o, none⟩) h, fun b o h => hb.frozen (p := ⟨b, o, none⟩) h⟩
theorem infoInt : (Try.prog.info? 3).map (fun i => (i.zero, i.size, i.bytes)) = some (some (.int .i64 0), 1, 8) := by kernel_rfl
theorem OwnI.setBelow {w : World} {B : Nat} {v : Value} {xs : List Int} (h : OwnI w B v xs) {p : Addr} (hp : p.block < B) (u : Value) : OwnI (w.setCell p u) B v xs := ownsRow_setCell_below h hp u
theorem OwnI.alloc {w : World} {B : Nat} {v : Value} {xs : List Int} (h : OwnI w B v xs) (o : Obj) : OwnI (w.alloc o) B v xs := h.below ((Below.refl _ _).alloc (Nat.le_refl _) o) (Nat.le_refl _)
theorem Below.mono' {B B' : Nat} {w w' : World} (h : Below B w w') (hB : B' ≤ B) : Below B' w w' := h.mono hB
/-- a block that holds two cells -/
def Box2 (w : World) (b : Nat) (u v : Value) : Prop := b < w.heap.size ∧ w.cell? ⟨b, 0, none⟩ = some u ∧ w.cell? ⟨b, 1, none⟩ = some v
theorem Box2.below {w w' : World} {b : Nat} {u v : Value} (h : Box2 w b u v) (hb : Below w.heap.size w w') : Box2 w' b u v :=
  ⟨Nat.lt_of_lt_of_le h.1 hb.size, (hb.cell (p := ⟨b, 0, none⟩) h.1).trans h.2.1, (hb.cell (p := ⟨b, 1, none⟩) h.1).trans h.2.2⟩
theorem Box2.new (w : World) (u v : Value) (t : TypeId) : Box2 (w.alloc (.cells #[u, v] t)) w.heap.size u v :=
  ⟨by simp, by simp, by simp⟩
theorem Box2.kept {w w' : World} {b : Nat} {u v : Value} {row : Option Nat} (h : Box2 w b u v) (hg : w.grownBy w' row) (hne : some b ≠ row) : Box2 w' b u v :=
  ⟨Nat.lt_of_lt_of_le h.1 hg.size, hg.cell h.2.1 hne, hg.cell h.2.2 hne⟩
theorem OwnI.lt {w : World} {B : Nat} {v : Value} {xs : List Int} (h : OwnI w B v xs) : ∀ b, v.ownBlock = some b → B ≤ b ∧ b < w.heap.size := World.ownsRow.lt h
theorem OwnI.cut {w : World} {B : Nat} {v : Value} {xs : List Int} (h : OwnI w B v xs) {U : Nat} (hU : w.heap.size ≤ U) : ∀ b, v.ownBlock = some b → B ≤ b ∧ b < U := fun b e => ⟨(h.lt b e).1, Nat.lt_of_lt_of_le (h.lt b e).2 hU⟩
/-- a block of two cells that may be written -/
def Var2 (w : World) (b : Nat) (u v : Value) : Prop := Box2 w b u v ∧ w.frozen? ⟨b, 0, none⟩ = false ∧ w.frozen? ⟨b, 1, none⟩ = false
theorem Var2.below {w w' : World} {b : Nat} {u v : Value} (h : Var2 w b u v) (hb : Below w.heap.size w w') : Var2 w' b u v :=
  ⟨h.1.below hb, (hb.frozen (p := ⟨b, 0, none⟩) h.1.1).trans h.2.1, (hb.frozen (p := ⟨b, 1, none⟩) h.1.1).trans h.2.2⟩
theorem Var2.new (w : World) (u v : Value) (t : TypeId) : Var2 (w.alloc (.cells #[u, v] t)) w.heap.size u v :=
  ⟨Box2.new w u v t, by simp, by simp⟩
theorem Var2.alloc {w : World} {b : Nat} {u v : Value} (h : Var2 w b u v) (o : Obj) : Var2 (w.alloc o) b u v := h.below ((Below.refl _ _).alloc (Nat.le_refl _) o)
theorem Var2.kept {w w' : World} {b : Nat} {u v : Value} {row : Option Nat} (h : Var2 w b u v) (hg : w.grownBy w' row) (hne : some b ≠ row) : Var2 w' b u v :=
  ⟨h.1.kept hg hne, (World.frozen?_of_block (w := w) (a := ⟨b, 0, none⟩) (hg.block b h.1.1 hne)).trans h.2.1, (World.frozen?_of_block (w := w) (a := ⟨b, 1, none⟩) (hg.block b h.1.1 hne)).trans h.2.2⟩
theorem Var2.set {w : World} {b : Nat} {u v : Value} (h : Var2 w b u v) (u' v' : Value) : Var2 ((w.setCell ⟨b, 0, none⟩ u').setCell ⟨b, 1, none⟩ v') b u' v' := by
  refine ⟨⟨by simpa using h.1.1, ?_, ?_⟩, by simpa using h.2.1, by simpa using h.2.2⟩
  · rw [World.cell?_setCell_other _ _ _ _ (by simp), World.cell?_setCell_same _ _ _ h.1.2.1]
  · rw [World.cell?_setCell_same _ _ _ (u := v) (by rw [World.cell?_setCell_other _ _ _ _ (by simp)]; exact h.1.2.2)]
theorem grown_set (w : World) (p : Addr) (u : Value) : w.grownBy (w.setCell p u) (some p.block) :=
  ⟨rfl, rfl, rfl, by simp, fun k hk hn => Below.heap_setCell w p u k (fun e => hn (by rw [e]))⟩
theorem Var2.set1 {w : World} {b : Nat} {u v : Value} (h : Var2 w b u v) (v' : Value) : Var2 (w.setCell ⟨b, 1, none⟩ v') b u v' := by
  refine ⟨⟨by simpa using h.1.1, ?_, ?_⟩, by simpa using h.2.1, by simpa using h.2.2⟩
  · rw [World.cell?_setCell_other _ _ _ _ (by simp)]; exact h.1.2.1
  · rw [World.cell?_setCell_same _ _ _ h.1.2.2]
theorem Box2.set {w : World} {b : Nat} {u v : Value} (h : Box2 w b u v) {p : Addr} (x : Value) (hne : b ≠ p.block) : Box2 (w.setCell p x) b u v :=
  h.kept (grown_set w p x) (by simpa using hne)
theorem Var2.other {w : World} {b : Nat} {u v : Value} (h : Var2 w b u v) {p : Addr} (x : Value) (hne : b ≠ p.block) : Var2 (w.setCell p x) b u v :=
  h.kept (grown_set w p x) (by simpa using hne)
theorem ne_own {v : Value} {b : Nat} (h : ∀ c, v.ownBlock = some c → c ≠ b) : some b ≠ v.ownBlock := fun e => h b e.symm rfl
theorem grown_alloc_set {w w1 : World} {r : Option Nat} {o : Obj} (h : (w.alloc o).grownBy w1 r) : w.grownBy w1 r :=
  ⟨h.os, h.tape, h.output, by have := h.size; simp at this; omega, fun k hk hn => (h.block k (by simp; omega) hn).trans (Below.heap_alloc w o k hk)⟩
theorem grown_trans {w w1 w2 : World} {r : Option Nat} (h1 : w.grownBy w1 r) (h2 : w1.grownBy w2 r) : w.grownBy w2 r :=
  ⟨h2.os.trans h1.os, h2.tape.trans h1.tape, h2.output.trans h1.output, Nat.le_trans h1.size h2.size, fun k hk hn => (h2.block k (by have := h1.size; omega) hn).trans (h1.block k hk hn)⟩
theorem OwnI.nil (w : World) (B : Nat) : OwnI w B (.slice none 0 0) [] := World.ownsRow_nil _ _ _ _
theorem below_of_grown {w w' : World} {v : Value} {B : Nat} (hg : w.grownBy w' v.ownBlock) (hB : ∀ b, v.ownBlock = some b → B ≤ b) (hs : B ≤ w.heap.size) : Below B w w' :=
  ⟨hg.os, hg.tape, hg.output, hg.size, fun k hk => hg.block k (by omega) (fun e => by have := hB k e.symm; omega)⟩

/-- a row of a list of rows -/
def rowL (xss : List (List Int)) (k : Nat) : List Int := xss.getD k []
/-- how many numbers the first k rows have -/
def totS (xss : List (List Int)) : Nat → Nat
  | 0 => 0
  | k+1 => totS xss k + (rowL xss k).length
theorem totS_mono {xss : List (List Int)} {j : Nat} : ∀ {k : Nat}, j ≤ k → totS xss j ≤ totS xss k
  | 0, h => by obtain rfl : j = 0 := by omega
               exact Nat.le_refl _
  | k+1, h => by
    by_cases e : j = k + 1
    · rw [e]; exact Nat.le_refl _
    · have := totS_mono (xss := xss) (j := j) (k := k) (by omega)
      simp only [totS]; omega
theorem row_tot {xss : List (List Int)} {k n : Nat} (h : k < n) : (rowL xss k).length ≤ totS xss n := by
  have := totS_mono (xss := xss) (j := k + 1) (k := n) (by omega)
  simp only [totS] at this
  omega
/-- the slice of slices at an address reads as a list of rows -/
structure RdS (w : World) (a : Option Addr) (xss : List (List Int)) : Prop where
  len : xss.length ≤ 9223372036854775807
  row : ∀ k, k < xss.length → ∃ b off a' cap', a = some ⟨b, off, none⟩ ∧ b < w.heap.size ∧ w.cell? ⟨b, off + k, none⟩ = some (.slice a' (rowL xss k).length cap') ∧ Rd w a' (rowL xss k)
theorem RdS.below {w w' : World} {a : Option Addr} {xss : List (List Int)} (h : RdS w a xss) (hb : Below w.heap.size w w') : RdS w' a xss :=
  ⟨h.len, fun k hk => by
    obtain ⟨b, off, a', cap', e, hl, hc, hr⟩ := h.row k hk
    exact ⟨b, off, a', cap', e, Nat.lt_of_lt_of_le hl hb.size, (hb.cell (World.block_lt_of_cell? _ _ hc)).trans hc, hr.below hb⟩⟩
theorem ownsRow_bel {w w' : World} {B B' : Nat} {e : TypeId} {size : Nat} {v : Value} {n : Nat} {xs : List Value} (h : w.ownsRow B e size v n xs) (hb : Below B' w w') (hB : w.heap.size ≤ B') : w'.ownsRow B e size v n xs := by
  refine ⟨h.1, ?_⟩
  rcases h.2 with hn | ⟨g, cap, cur, e, hb', hg, rest⟩
  · exact .inl hn
  · refine .inr ⟨g, cap, cur, e, hb', ?_, rest⟩
    rw [hb.block g (by have := (Array.getElem?_eq_some_iff.1 hg).1; omega)]
    exact hg
def valAt (vl : List Value) (k : Nat) : Value := vl.getD k (.slice none 0 0)
/-- a slice of slices that owns its rows: the outer block is g -/
structure OwnS (w : World) (B g : Nat) (vl : List Value) (xss : List (List Int)) : Prop where
  lo : B ≤ g
  hi : g < w.heap.size
  max : xss.length ≤ 9223372036854775807
  cell : ∀ k, k < xss.length → w.cell? ⟨g, k, none⟩ = some (valAt vl k)
  row : ∀ k, k < xss.length → OwnI w (g + 1) (valAt vl k) (rowL xss k)
  apart : ∀ j k, j < k → k < xss.length → ∀ c d, (valAt vl j).ownBlock = some c → (valAt vl k).ownBlock = some d → c < d
theorem OwnS.rd {w : World} {B g : Nat} {vl : List Value} {xss : List (List Int)} (h : OwnS w B g vl xss) : RdS w (some ⟨g, 0, none⟩) xss :=
  ⟨h.max, fun k hk => by
    have h1 := h.row k hk
    have h2 := h.cell k hk
    obtain ⟨a', cap', e⟩ := h1.form
    rw [e] at h1 h2
    exact ⟨g, 0, a', cap', rfl, h.hi, by rw [Nat.zero_add]; exact h2, h1.rd⟩⟩
theorem OwnS.below {w w' : World} {B B' g : Nat} {vl : List Value} {xss : List (List Int)} (h : OwnS w B g vl xss) (hb : Below B' w w') (hB : w.heap.size ≤ B') : OwnS w' B g vl xss :=
  ⟨h.lo, Nat.lt_of_lt_of_le h.hi hb.size, h.max, fun k hk => (hb.cell (p := ⟨g, k, none⟩) (Nat.lt_of_lt_of_le h.hi hB)).trans (h.cell k hk), fun k hk => (h.row k hk).below hb hB, h.apart⟩
theorem OwnS.cut {w : World} {B g : Nat} {vl : List Value} {xss : List (List Int)} (h : OwnS w B g vl xss) {U : Nat} (hU : w.heap.size ≤ U) : B ≤ g ∧ ∀ k, k < xss.length → ∀ c, (valAt vl k).ownBlock = some c → g < c ∧ c < U :=
  ⟨h.lo, fun k hk c e => by have := (h.row k hk).lt c e; omega⟩
/-- only blocks of a stretch are written -/
structure TouchS (lo hi : Nat) (w w' : World) : Prop where
  os : w'.os = w.os
  tape : w'.tape = w.tape
  output : w'.output = w.output
  size : w.heap.size ≤ w'.heap.size
  block : ∀ k, k < w.heap.size → k < lo ∨ hi ≤ k → w'.heap[k]? = w.heap[k]?
theorem TouchS.refl (lo hi : Nat) (w : World) : TouchS lo hi w w := ⟨rfl, rfl, rfl, Nat.le_refl _, fun _ _ _ => rfl⟩
theorem TouchS.step {lo hi : Nat} {w w1 w2 : World} {r : Option Nat} (h : TouchS lo hi w w1) (hg : w1.grownBy w2 r) (hr : ∀ c, r = some c → lo ≤ c ∧ c < hi) : TouchS lo hi w w2 :=
  ⟨hg.os.trans h.os, hg.tape.trans h.tape, hg.output.trans h.output, Nat.le_trans h.size hg.size, fun k hk hn => (hg.block k (by have := h.size; omega) (fun e => by have := hr k e.symm; omega)).trans (h.block k hk hn)⟩
theorem TouchS.below {lo hi B : Nat} {w w' : World} (h : TouchS lo hi w w') (hB : B ≤ lo) (hs : B ≤ w.heap.size) : Below B w w' :=
  ⟨h.os, h.tape, h.output, h.size, fun k hk => h.block k (by omega) (by omega)⟩
theorem TouchS.other {lo hi : Nat} {w w' : World} (h : TouchS lo hi w w') (b : Nat) (hb : b < lo ∨ hi ≤ b) (hs : b < w.heap.size) : ∀ r, w'.heap[b]? = w.heap[b]? ∧ (r = some b → True) := fun _ => ⟨h.block b hs hb, fun _ => trivial⟩
theorem Box2.touch {lo hi : Nat} {w w' : World} {b : Nat} {u v : Value} (h : Box2 w b u v) (ht : TouchS lo hi w w') (hb : b < lo ∨ hi ≤ b) : Box2 w' b u v :=
  ⟨Nat.lt_of_lt_of_le h.1 ht.size, (World.cell?_of_block (w := w) (a := ⟨b, 0, none⟩) (ht.block b h.1 hb)).trans h.2.1, (World.cell?_of_block (w := w) (a := ⟨b, 1, none⟩) (ht.block b h.1 hb)).trans h.2.2⟩
theorem OwnI.touch {lo hi : Nat} {w w' : World} {B : Nat} {v : Value} {xs : List Int} (h : OwnI w B v xs) (ht : TouchS lo hi w w') (hb : ∀ c, v.ownBlock = some c → c < lo ∨ hi ≤ c) : OwnI w' B v xs := by
  refine ⟨h.1, ?_⟩
  rcases h.2 with hn | ⟨g, cap, cur, e, hb', hg, rest⟩
  · exact .inl hn
  · refine .inr ⟨g, cap, cur, e, hb', ?_, rest⟩
    rw [ht.block g (Array.getElem?_eq_some_iff.1 hg).1 (hb g (by rw [e]; rfl))]
    exact hg

theorem nth_snoc_lt {ys : List Int} {x : Int} {j : Nat} (h : j < ys.length) : nth (ys ++ [x]) j = nth ys j := by
  simp [nth, List.getD_eq_getElem?_getD, List.getElem?_append_left h]
theorem nth_snoc_at (ys : List Int) (x : Int) : nth (ys ++ [x]) ys.length = x := by
  simp [nth, List.getD_eq_getElem?_getD]
/-- the sum of the first k values -/
def sumTo (f : Nat → Nat) : Nat → Nat
  | 0 => 0
  | k+1 => sumTo f k + f k
theorem sumTo_congr {f g : Nat → Nat} : ∀ {k : Nat}, (∀ j, j < k → f j = g j) → sumTo f k = sumTo g k
  | 0, _ => rfl
  | k+1, h => by rw [sumTo, sumTo, sumTo_congr (fun j hj => h j (by omega)), h k (by omega)]
theorem sumTo_le {f : Nat → Nat} {c : Nat} : ∀ {k : Nat}, (∀ j, j < k → f j ≤ c) → sumTo f k ≤ k * c
  | 0, _ => by simp [sumTo]
  | k+1, h => by
    have h1 := sumTo_le (f := f) (c := c) (k := k) (fun j hj => h j (by omega))
    have h2 := h k (by omega)
    rw [sumTo, Nat.succ_mul]; omega
theorem sumTo_mono {f : Nat → Nat} {j : Nat} : ∀ {k : Nat}, j ≤ k → sumTo f j ≤ sumTo f k
  | 0, h => by obtain rfl : j = 0 := by omega
               exact Nat.le_refl _
  | k+1, h => by
    by_cases e : j = k + 1
    · rw [e]; exact Nat.le_refl _
    · have := sumTo_mono (f := f) (j := j) (k := k) (by omega)
      rw [sumTo]; omega
/-- the first k of so many lists of rows, one after the other -/
def catTo (f : Nat → List (List Int)) : Nat → List (List Int)
  | 0 => []
  | k+1 => catTo f k ++ f k
theorem catTo_len (f : Nat → List (List Int)) : ∀ k, (catTo f k).length = sumTo (fun x => (f x).length) k
  | 0 => rfl
  | k+1 => by rw [catTo, sumTo, List.length_append, catTo_len f k]
theorem mem_catTo {f : Nat → List (List Int)} {r : List Int} : ∀ {k : Nat}, r ∈ catTo f k → ∃ j, j < k ∧ r ∈ f j
  | 0, h => by simp [catTo] at h
  | k+1, h => by
    rcases List.mem_append.1 h with h | h
    · obtain ⟨j, h1, h2⟩ := mem_catTo h
      exact ⟨j, by omega, h2⟩
    · exact ⟨k, by omega, h⟩

def inB (n lo hi : Int) : Bool := decide (lo ≤ n) && decide (n ≤ hi)
theorem inB_iff {n lo hi : Int} : inB n lo hi = true ↔ lo ≤ n ∧ n ≤ hi := by simp [inB]
theorem inB_no {n lo hi : Int} : inB n lo hi = false ↔ n < lo ∨ hi < n := by
  rw [← Bool.not_eq_true, inB_iff]
  omega

def allB (xs : List Int) (lo hi : Int) : Bool := xs.all (fun x => inB x lo hi)
theorem allB_take (xs : List Int) (lo hi : Int) (k : Nat) (h : k < xs.length) : allB (xs.take (k+1)) lo hi = (allB (xs.take k) lo hi && inB (nth xs k) lo hi) := by
  simp only [allB]
  rw [List.take_succ_eq_append_getElem h, List.all_append]
  simp [nth, h]
theorem allB_false {xs : List Int} {lo hi : Int} {k : Nat} (h : k < xs.length) (h1 : inB (nth xs k) lo hi = false) : allB xs lo hi = false := by
  simp only [allB, List.all_eq_false]
  exact ⟨xs[k], List.getElem_mem h, by simpa [nth, h] using h1⟩
theorem allB_nth {xs : List Int} {lo hi : Int} (h : allB xs lo hi = true) {k : Nat} (hk : k < xs.length) : lo ≤ nth xs k ∧ nth xs k ≤ hi := by
  simp only [allB, List.all_eq_true] at h
  have := inB_iff.1 (h _ (List.getElem_mem hk))
  rwa [← nth_get xs k hk] at this

/-- is it a relation? -/
def relB (n : Int) (xs : List Int) : Bool := inB n 0 10 && decide ((xs.length : Int) = n) && allB xs 0 (2 ^ n.toNat - 1)
theorem relB_iff {n : Int} {xs : List Int} : relB n xs = true ↔ (0 ≤ n ∧ n ≤ 10) ∧ (xs.length : Int) = n ∧ allB xs 0 (2 ^ n.toNat - 1) = true := by
  simp [relB, inB_iff, and_assoc]
theorem pow10 {n : Nat} (h : n ≤ 10) : (1 : Int) ≤ 2 ^ n ∧ (2 : Int) ^ n ≤ 1024 := by
  have h1 : 2 ^ n ≤ 2 ^ 10 := Nat.pow_le_pow_right (by omega) h
  have h2 : 1 ≤ 2 ^ n := Nat.one_le_two_pow
  have h3 : ((2 ^ n : Nat) : Int) = (2 : Int) ^ n := by simp
  omega
theorem full_eq {n : Int} (h0 : 0 ≤ n) (h1 : n ≤ 10) : wrap64 (wrap64 (2 ^ n.toNat) - 1) = 2 ^ n.toNat - 1 := by
  have h2 := pow10 (n := n.toNat) (by omega)
  generalize (2 : Int) ^ n.toNat = p at *
  rw [IntWalk.wrap64_in p ⟨by omega, by omega⟩, IntWalk.wrap64_in _ ⟨by omega, by omega⟩]
structure RelP (n : Int) (xs : List Int) : Prop where
  n0 : 0 ≤ n
  n1 : n ≤ 10
  len : (xs.length : Int) = n
  pos : ∀ k, k < xs.length → 0 ≤ nth xs k
  lt : ∀ k, k < xs.length → nth xs k < 2 ^ xs.length
  small : ∀ k, k < xs.length → nth xs k < 1024
theorem relB_p {n : Int} {xs : List Int} (h : relB n xs = true) : RelP n xs := by
  obtain ⟨⟨h0, h1⟩, h2, h3⟩ := relB_iff.1 h
  have e : n.toNat = xs.length := by omega
  rw [e] at h3
  have hp := pow10 (n := xs.length) (by omega)
  exact ⟨h0, h1, h2, fun k hk => (allB_nth h3 hk).1, fun k hk => by have := (allB_nth h3 hk).2; omega, fun k hk => by have := (allB_nth h3 hk).2; omega⟩

def elemB (i n : Int) : Bool := decide (0 ≤ i) && decide (i < n)
theorem elemB_iff {i n : Int} : elemB i n = true ↔ 0 ≤ i ∧ i < n := by simp [elemB]
theorem elemB_no {i n : Int} : elemB i n = false ↔ i < 0 ∨ n ≤ i := by
  rw [← Bool.not_eq_true, elemB_iff]; omega

theorem wrap64_small (n : Int) (h0 : -9223372036854775808 ≤ n) (h1 : n ≤ 9223372036854775807) : IntKind.i64.wrap n = n := by
  simp only [IntKind.wrap, IntKind.bits, IntKind.signed]
  simp
  omega
theorem i64_wrap (n : Int) : IntKind.i64.wrap n = wrap64 n := IntWalk.i64_left n
theorem ofInt_i64 (a : Nat) (ha : a < 9223372036854775808) : (BitVec.ofInt 64 (a : Int)).toNat = a := by
  simp
  omega
theorem and_nat (a b : Nat) (ha : a < 9223372036854775808) (hb : b < 9223372036854775808) : bits .and .i64 (a : Int) (b : Int) = ((a &&& b : Nat) : Int) := by
  have hx : a &&& b < 2 ^ 63 := Nat.and_lt_two_pow _ (by omega)
  show IntKind.i64.wrap ((BitVec.ofInt 64 (a : Int) &&& BitVec.ofInt 64 (b : Int)).toNat : Int) = _
  rw [BitVec.toNat_and, ofInt_i64 a ha, ofInt_i64 b hb, wrap64_small _ (by omega) (by omega)]
theorem or_nat (a b : Nat) (ha : a < 9223372036854775808) (hb : b < 9223372036854775808) : bits .or .i64 (a : Int) (b : Int) = ((a ||| b : Nat) : Int) := by
  have hx : a ||| b < 2 ^ 63 := Nat.or_lt_two_pow (by omega) (by omega)
  show IntKind.i64.wrap ((BitVec.ofInt 64 (a : Int) ||| BitVec.ofInt 64 (b : Int)).toNat : Int) = _
  rw [BitVec.toNat_or, ofInt_i64 a ha, ofInt_i64 b hb, wrap64_small _ (by omega) (by omega)]
/-- a set without the elements of another one -/
def sub (a b : Nat) : Nat := a ^^^ (a &&& b)
theorem testBit_sub (a b i : Nat) : (sub a b).testBit i = (a.testBit i && !b.testBit i) := by
  simp [sub, Nat.testBit_xor, Nat.testBit_and]
  cases a.testBit i <;> cases b.testBit i <;> rfl
theorem sub_lt {a b n : Nat} (h : a < 2 ^ n) : sub a b < 2 ^ n := by
  unfold sub
  exact Nat.xor_lt_two_pow h (by rw [Nat.and_comm]; exact Nat.and_lt_two_pow _ h)
theorem sub_nat (a b : Nat) (ha : a < 9223372036854775808) (hb : b < 9223372036854775808) : bits .andNot .i64 (a : Int) (b : Int) = ((sub a b : Nat) : Int) := by
  have hs : sub a b < 2 ^ 63 := sub_lt (by omega)
  show IntKind.i64.wrap ((BitVec.ofInt 64 (a : Int) &&& ~~~BitVec.ofInt 64 (b : Int)).toNat : Int) = _
  have e : (BitVec.ofInt 64 (a : Int) &&& ~~~BitVec.ofInt 64 (b : Int)).toNat = sub a b := by
    apply Nat.eq_of_testBit_eq
    intro i
    rw [BitVec.testBit_toNat, BitVec.getLsbD_and, BitVec.getLsbD_not, testBit_sub, ← BitVec.testBit_toNat, ← BitVec.testBit_toNat, ofInt_i64 a ha, ofInt_i64 b hb]
    by_cases hi : i < 64
    · simp [hi]
    · have : a.testBit i = false := Nat.testBit_lt_two_pow (Nat.lt_of_lt_of_le (by omega : a < 2 ^ 64) (Nat.pow_le_pow_right (by omega) (by omega)))
      simp [this]
  rw [e, wrap64_small _ (by omega) (by omega)]
theorem shr_nat (s i : Nat) (hs : s < 9223372036854775808) : (s : Int) / (2 ^ min i 64) = ((s >>> i : Nat) : Int) := by
  rw [Nat.shiftRight_eq_div_pow]
  by_cases h : i ≤ 64
  · rw [Nat.min_eq_left h]
    simp
  · rw [Nat.min_eq_right (by omega)]
    have : 2 ^ 64 ≤ 2 ^ i := Nat.pow_le_pow_right (by omega) (by omega)
    rw [Nat.div_eq_of_lt (by omega)]
    omega
theorem bit_and (s i : Nat) (hs : s < 9223372036854775808) : (bits .and .i64 ((s >>> i : Nat) : Int) 1 == 1) = s.testBit i := by
  have h1 : s >>> i ≤ s := by rw [Nat.shiftRight_eq_div_pow]; exact Nat.div_le_self _ _
  have := and_nat (s >>> i) 1 (by omega) (by omega)
  rw [show ((1 : Nat) : Int) = 1 from rfl] at this
  rw [this, Nat.testBit, Nat.and_one_is_mod, Nat.and_comm, Nat.and_one_is_mod]
  rcases Nat.mod_two_eq_zero_or_one (s >>> i) with h | h <;> simp [h]
theorem bit_mod (s i : Nat) : (((s >>> i : Nat) : Int) % 2 == 1) = s.testBit i := by
  rw [Nat.testBit, Nat.and_comm, Nat.and_one_is_mod]
  rcases Nat.mod_two_eq_zero_or_one (s >>> i) with h | h
  · have h2 : ((s >>> i : Nat) : Int) % 2 = 0 := by omega
    rw [h2, h]; rfl
  · have h2 : ((s >>> i : Nat) : Int) % 2 = 1 := by omega
    rw [h2, h]; rfl
theorem bit_tmod (s i : Nat) : (((s >>> i : Nat) : Int).tmod 2 == 1) = s.testBit i := by
  rw [Int.tmod_eq_emod_of_nonneg (Int.natCast_nonneg _), bit_mod]
/-- is i in the set s? -/
def hasB (s i : Int) : Bool := s.toNat.testBit i.toNat
theorem has_and {s i : Int} (h0 : 0 ≤ s) (h1 : s ≤ 9223372036854775807) (hi : 0 ≤ i) : (bits .and .i64 (s / 2 ^ min i.toNat 64) 1 == 1) = hasB s i := by
  obtain ⟨S, rfl⟩ := Int.eq_ofNat_of_zero_le h0
  rw [shr_nat S _ (by omega), bit_and S _ (by omega)]
  rfl
theorem has_mod {s i : Int} (h0 : 0 ≤ s) (h1 : s ≤ 9223372036854775807) (hi : 0 ≤ i) : ((s / 2 ^ min i.toNat 64).tmod 2 == 1) = hasB s i := by
  obtain ⟨S, rfl⟩ := Int.eq_ofNat_of_zero_le h0
  rw [shr_nat S _ (by omega), bit_tmod S]
  rfl
theorem pow_w {k : Nat} (h : k < 62) : wrap64 (2 ^ k) = ((2 ^ k : Nat) : Int) := by
  have : 2 ^ k ≤ 2 ^ 61 := Nat.pow_le_pow_right (by omega) (by omega)
  rw [show ((2:Int) ^ k) = ((2 ^ k : Nat) : Int) by simp]
  generalize hp : 2 ^ k = p at *
  exact IntWalk.wrap64_in _ ⟨by omega, by omega⟩
theorem or_bit {b k : Nat} (hb : b < 4611686018427387904) (hk : k < 62) : bits .or .i64 (b : Int) (wrap64 (2 ^ k)) = ((b ||| 2 ^ k : Nat) : Int) := by
  rw [pow_w hk]
  have : 2 ^ k ≤ 2 ^ 61 := Nat.pow_le_pow_right (by omega) (by omega)
  exact or_nat _ _ (by omega) (by omega)
theorem or_i {a b : Int} (ha : 0 ≤ a) (ha1 : a < 9223372036854775808) (hb : 0 ≤ b) (hb1 : b < 9223372036854775808) : bits .or .i64 a b = ((a.toNat ||| b.toNat : Nat) : Int) := by
  obtain ⟨A, rfl⟩ := Int.eq_ofNat_of_zero_le ha
  obtain ⟨B, rfl⟩ := Int.eq_ofNat_of_zero_le hb
  exact or_nat A B (by omega) (by omega)
theorem sub_i {a b : Int} (ha : 0 ≤ a) (ha1 : a < 9223372036854775808) (hb : 0 ≤ b) (hb1 : b < 9223372036854775808) : bits .andNot .i64 a b = ((sub a.toNat b.toNat : Nat) : Int) := by
  obtain ⟨A, rfl⟩ := Int.eq_ofNat_of_zero_le ha
  obtain ⟨B, rfl⟩ := Int.eq_ofNat_of_zero_le hb
  exact sub_nat A B (by omega) (by omega)
theorem or_lt {a b n : Nat} (ha : a < 2 ^ n) (hb : b < 2 ^ n) : a ||| b < 2 ^ n := Nat.or_lt_two_pow ha hb
theorem two_lt {k n : Nat} (h : k < n) : 2 ^ k < 2 ^ n := Nat.pow_lt_pow_right (by omega) h
theorem testBit_two (k i : Nat) : (2 ^ k).testBit i = decide (k = i) := Nat.testBit_two_pow

def okE (n : Int) (xs : List Int) (i : Int) : Bool := relB n xs && elemB i n
def okB (n : Int) (xs : List Int) (i j : Int) : Bool := relB n xs && elemB i n && elemB j n
def betF (n : Int) (xs : List Int) (i j : Int) : Bool := okB n xs i j && hasB (nth xs i.toNat) j
theorem ret_bb {a b c d : Bool} (h : a = b) (h2 : c = d) : Ending.returned (.tuple #[.bool a, .bool c]) = .returned (.tuple #[.bool b, .bool d]) := by rw [h, h2]
theorem ret_ib {a b : Int} {c d : Bool} (h : a = b) (h2 : c = d) : Ending.returned (.tuple #[.int .i64 a, .bool c]) = .returned (.tuple #[.int .i64 b, .bool d]) := by rw [h, h2]

/-- the last number, or 0 -/
def lastN (ys : List Int) : Nat := (nth ys (ys.length - 1)).toNat
/-- the stairs that go on a stair by d numbers -/
def stS : Nat → List Int → List (List Int)
  | 0, ys => [ys]
  | d+1, ys => catTo (fun j => stS d (ys ++ [((lastN ys + j : Nat) : Int)])) (ys.length + 1 - lastN ys)
theorem stS_len : ∀ (d : Nat) (ys : List Int), ys.length + d ≤ 6 → (stS d ys).length ≤ 7 ^ d
  | 0, ys, _ => by simp [stS]
  | d+1, ys, h => by
    rw [stS, catTo_len]
    have h1 := sumTo_le (f := fun j => (stS d (ys ++ [((lastN ys + j : Nat) : Int)])).length) (c := 7 ^ d) (k := ys.length + 1 - lastN ys) (fun j _ => stS_len d _ (by simp; omega))
    have h2 := Nat.mul_le_mul (show ys.length + 1 - lastN ys ≤ 7 by omega) (Nat.le_refl (7 ^ d))
    rw [Nat.pow_succ]; omega
theorem seven_le {d : Nat} (h : d ≤ 6) : 7 ^ d ≤ 117649 := Nat.le_trans (Nat.pow_le_pow_right (by omega) h) (by decide)
/-- the stairs that are a stair and one number more -/
def extS (ys : List Int) : List (List Int) := catTo (fun j => [ys ++ [((lastN ys + j : Nat) : Int)]]) (ys.length + 1 - lastN ys)
theorem catTo_flat {f : Nat → List (List Int)} {g : List Int → List (List Int)} : ∀ k, (catTo f k).flatMap g = catTo (fun j => (f j).flatMap g) k
  | 0 => rfl
  | k+1 => by rw [catTo, catTo, List.flatMap_append, catTo_flat k]
theorem stS_succ : ∀ (d : Nat) (ys : List Int), stS (d+1) ys = (stS d ys).flatMap extS
  | 0, ys => by simp [stS, extS]
  | d+1, ys => by
    rw [stS, stS, catTo_flat]
    congr 1
    funext j
    exact stS_succ d _
def stV (i : Nat) (r : List Int) : Bool := r.length == i && (List.range i).all fun j => decide (0 ≤ nth r j) && decide (nth r j ≤ (j : Int))
theorem stS_ok : ∀ n : Fin 7, (stS n.val []).all (stV n.val) = true := by decide +kernel
theorem stS_tot : ∀ n : Fin 7, (stS n.val []).length + totS (stS n.val []) (stS n.val []).length ≤ 1048576 := by decide +kernel
theorem stS_cut : ∀ n : Fin 7, ∀ k : Fin 133, (((stS n.val []).take k.val).flatMap extS).length ≤ 1048576 := by decide +kernel
theorem stS_small : ∀ n : Fin 7, (stS n.val []).length ≤ 132 := by decide +kernel
def ssB (n : Int) : Bool := inB n 0 6
def ssL (n : Int) : List (List Int) := if ssB n then stS n.toNat [] else []
theorem ssL_len (n : Int) : (ssL n).length + totS (ssL n) (ssL n).length ≤ 1048576 := by
  unfold ssL
  split
  · rename_i h
    have := inB_iff.1 h
    exact stS_tot ⟨n.toNat, by omega⟩
  · simp [totS]

/-- a list of rows that has been made: the outer row is at v, and each row is one of its own -/
structure RowsO (w : World) (B : Nat) (v : Value) (vl : List Value) (xss : List (List Int)) : Prop where
  own : w.ownsRow B 22 1 v xss.length vl
  row : ∀ k, k < xss.length → OwnI w B (valAt vl k) (rowL xss k)
  apart : ∀ k, k < xss.length → ∀ c, (valAt vl k).ownBlock = some c → v.ownBlock ≠ some c
theorem RowsO.vlen {w : World} {B : Nat} {v : Value} {vl : List Value} {xss : List (List Int)} (h : RowsO w B v vl xss) : vl.length = xss.length := by
  have := h.own.1
  omega
theorem RowsO.form {w : World} {B : Nat} {v : Value} {vl : List Value} {xss : List (List Int)} (h : RowsO w B v vl xss) : ∃ a cap, v = .slice a xss.length cap := by
  rcases h.own.2 with ⟨rfl, h0⟩ | ⟨g, cap, cur, rfl, _⟩
  · exact ⟨none, 0, by rw [h0]⟩
  · exact ⟨_, _, rfl⟩
theorem RowsO.below {w w' : World} {B B' : Nat} {v : Value} {vl : List Value} {xss : List (List Int)} (h : RowsO w B v vl xss) (hb : Below B' w w') (hB : w.heap.size ≤ B') : RowsO w' B v vl xss :=
  ⟨ownsRow_bel h.own hb hB, fun k hk => (h.row k hk).below hb hB, h.apart⟩
theorem RowsO.mono {w : World} {B B' : Nat} {v : Value} {vl : List Value} {xss : List (List Int)} (h : RowsO w B v vl xss) (hB : B' ≤ B) : RowsO w B' v vl xss := by
  refine ⟨⟨h.own.1, ?_⟩, fun k hk => (h.row k hk).mono hB, h.apart⟩
  rcases h.own.2 with hn | ⟨g, cap, cur, e, hb, rest⟩
  · exact .inl hn
  · exact .inr ⟨g, cap, cur, e, by omega, rest⟩
theorem RowsO.nil (w : World) (B : Nat) : RowsO w B (.slice none 0 0) [] [] :=
  ⟨World.ownsRow_nil _ _ _ _, fun k hk => by simp at hk, fun k hk => by simp at hk⟩
theorem RowsO.lt {w : World} {B : Nat} {v : Value} {vl : List Value} {xss : List (List Int)} (h : RowsO w B v vl xss) : ∀ b, v.ownBlock = some b → B ≤ b ∧ b < w.heap.size := World.ownsRow.lt h.own
theorem valAt_get {vl : List Value} {k : Nat} (h : k < vl.length) : vl[k]? = some (valAt vl k) := by
  rw [valAt, List.getD_eq_getElem?_getD, List.getElem?_eq_getElem h]; rfl
theorem RowsO.rd {w : World} {B n cap : Nat} {a : Option Addr} {vl : List Value} {xss : List (List Int)} (h : RowsO w B (.slice a n cap) vl xss) : RdS w a xss := by
  have hvl := h.vlen
  rcases h.own.2 with ⟨e, h0⟩ | ⟨g, cap', cur, e, hb, hg, hn, hm, hs, ht⟩
  · exact ⟨by omega, fun k hk => by omega⟩
  · simp only [Value.slice.injEq] at e
    obtain ⟨rfl, rfl, rfl⟩ := e
    refine ⟨by unfold maxLen at hm; omega, fun k hk => ?_⟩
    have h1 := World.ownsRow.cellAt h.own k (by omega)
    have h2 := h.row k hk
    obtain ⟨a', c', e'⟩ := h2.form
    rw [e'] at h2
    refine ⟨g, 0, a', c', rfl, (Array.getElem?_eq_some_iff.1 hg).1, ?_, h2.rd⟩
    rw [Nat.zero_add, h1, valAt_get (by omega), e']
/-- one list of rows after the other: only the outer row of the first one has been written -/
theorem RowsO.cat {w w' : World} {B C : Nat} {v v2 v' : Value} {vl vl2 : List Value} {xss yss : List (List Int)} (h : RowsO w B v vl xss) (h2 : RowsO w C v2 vl2 yss) (hBC : B ≤ C) (hvC : ∀ c, v.ownBlock = some c → c < C)
    (ho : w'.ownsRow B 22 1 v' (xss.length + yss.length) (vl ++ vl2)) (hg : w.grownBy w' v.ownBlock) (hv' : v'.ownBlock = v.ownBlock ∨ v'.ownBlock = some w.heap.size) : RowsO w' B v' (vl ++ vl2) (xss ++ yss) := by
  have hl := h.vlen
  have hl2 := h2.vlen
  have e1 : ∀ k, k < xss.length → valAt (vl ++ vl2) k = valAt vl k ∧ rowL (xss ++ yss) k = rowL xss k := by
    intro k hk
    exact ⟨by rw [valAt, valAt, List.getD_eq_getElem?_getD, List.getD_eq_getElem?_getD, List.getElem?_append_left (by omega)], by rw [rowL, rowL, List.getD_eq_getElem?_getD, List.getD_eq_getElem?_getD, List.getElem?_append_left (by omega)]⟩
  have e2 : ∀ k, xss.length ≤ k → valAt (vl ++ vl2) k = valAt vl2 (k - xss.length) ∧ rowL (xss ++ yss) k = rowL yss (k - xss.length) := by
    intro k hk
    exact ⟨by rw [valAt, valAt, List.getD_eq_getElem?_getD, List.getD_eq_getElem?_getD, List.getElem?_append_right (by omega), hl], by rw [rowL, rowL, List.getD_eq_getElem?_getD, List.getD_eq_getElem?_getD, List.getElem?_append_right (by omega)]⟩
  have hne : ∀ k, k < (xss ++ yss).length → OwnI w B (valAt (vl ++ vl2) k) (rowL (xss ++ yss) k) ∧ ∀ c, (valAt (vl ++ vl2) k).ownBlock = some c → v.ownBlock ≠ some c ∧ c < w.heap.size := by
    intro k hk
    rw [List.length_append] at hk
    by_cases e : k < xss.length
    · rw [(e1 k e).1, (e1 k e).2]
      exact ⟨h.row k e, fun c hc => ⟨h.apart k e c hc, ((h.row k e).lt c hc).2⟩⟩
    · rw [(e2 k (by omega)).1, (e2 k (by omega)).2]
      have h3 := h2.row (k - xss.length) (by omega)
      refine ⟨h3.mono hBC, fun c hc => ⟨fun hh => ?_, (h3.lt c hc).2⟩⟩
      have := hvC c hh
      have := (h3.lt c hc).1
      omega
  refine ⟨by rw [List.length_append]; exact ho, fun k hk => ?_, fun k hk c hc => ?_⟩
  · have ⟨h3, h4⟩ := hne k hk
    refine h3.kept hg ?_
    cases hc : (valAt (vl ++ vl2) k).ownBlock with
    | none => exact .inl rfl
    | some c => exact .inr (fun hh => (h4 c hc).1 hh.symm)
  · have ⟨_, h4⟩ := hne k hk
    have ⟨h5, h6⟩ := h4 c hc
    rcases hv' with hv' | hv'
    · rw [hv']; exact h5
    · rw [hv']; intro hh; simp only [Option.some.injEq] at hh; omega
theorem infoSlice : (Try.prog.info? 22).map (fun i => (i.zero, i.size, i.bytes)) = some (some (.slice none 0 0), 1, 24) := by kernel_rfl

theorem wpList_append_none {P : Program} {w : World} {ops : Array Oper} {rest : List Oper} {o : Oper} {a : Act} {Q : Exit → Act → World → Prop} (hgd : o.guard = none) (s x : Operand) (t : TypeId)
    (ho : o.op = .call { callee := .builtin .append, args := #[s, x], argTypes := #[t, t] })
    (base : Nat) (e : TypeId) (i : TypeInfo) (size : Nat) (ht : P.underlying t = some (.slice e)) (hi : P.info? e = some i)
    (v : Value) (n c : Nat) (xs : List Value) (hs : a.eval s = v) (hown : w.ownsRow base e size v n xs) (hx : a.eval x = .slice none 0 c)
    (h : wpList P ops Q rest (a.put o.dst v) w) : wpList P ops Q (o :: rest) a w := by
  refine wpList_plain hgd fun K hK => ?_
  have hrun : (Builtin.append_ #[t, t] o.type #[v, .slice none 0 c]).run P w = .ok v w := by
    rcases hown.2 with ⟨rfl, rfl⟩ | ⟨g, cap, cur, rfl, _, _, hnc, _⟩
    · simp [Builtin.append_, run_underlying ht, sizeOf, typeInfo, hi, Builtin.lenOf, Builtin.firstCells]
    · simp [Builtin.append_, run_underlying ht, sizeOf, typeInfo, hi, Builtin.lenOf, Builtin.firstCells, hnc, storeCells]
  unfold Oper.wp
  simp [execOp, ho, resolve, invoke, builtin, hs, hx, hrun, Result.andThen]
  exact hK _ _ h
theorem rd_news {w : World} {ad : Addr} {xs : List Int} (hx : Rd w (some ad) xs) : ∀ j u, (xs.map (Value.int .i64))[j]? = some u → w.cell? (ad.add j) = some u := by
  intro j u hj
  rw [List.getElem?_map, Option.map_eq_some_iff] at hj
  obtain ⟨x, hx1, rfl⟩ := hj
  obtain ⟨hlt, e⟩ := List.getElem?_eq_some_iff.1 hx1
  obtain ⟨b, off, e1, _, hc⟩ := hx.cell j hlt
  simp only [Option.some.injEq] at e1
  subst e1
  rw [Addr.add_lit, hc, nth_get xs j hlt, e]
theorem ints_one (xs : List Int) : ∀ u ∈ xs.map (Value.int .i64), u.oneCell' = true := by
  intro u hu
  obtain ⟨x, _, rfl⟩ := List.mem_map.1 hu
  rfl

theorem l1Own_any (a : Option Addr) (xs : List Int) (cap : Nat) (w : World) (hx : Rd w a xs) (hn : xs.length ≤ 1048576) :
    Calls Try.prog 36 #[.slice a xs.length cap] w fun e w' => ∃ a' cap', e = .returned (.slice a' xs.length cap') ∧ OwnI w' w.heap.size (.slice a' xs.length cap') xs ∧ Below w.heap.size w w' := by
  obtain ⟨i0, hi, hz0, hz1, hz2⟩ := info_parts infoInt
  have hown : (w.alloc (.cells #[] 3)).ownsRow w.heap.size 3 1 (.slice (some ⟨w.heap.size, 0, none⟩) 0 0) 0 [] := World.ownsRow_lit w #[] 0 (Nat.le_refl _) (by simp [maxLen]) (by simp)
  cases a with
  | none =>
    have h0 : xs = [] := by
      rcases xs with _ | ⟨x, t⟩
      · rfl
      · obtain ⟨b, off, e, _⟩ := hx.cell 0 (by simp)
        cases e
    subst h0
    go_enter Try.func36, Try.ntmps36
    go_wp2_with (at_builtin; refine wpList_append_none rfl _ _ 22 rfl w.heap.size 3 i0 1 Try.underlying22 hi _ 0 _ [] rfl hown rfl ?_)
    go_wp2_with fail
    go_ret
    exact ⟨_, _, rfl, hown, (by repeat (first | exact Below.refl _ _ | assumption | refine Below.alloc ?_ (by first | exact Nat.le_refl _ | (simp only [World.size_alloc, World.size_setCell, World.size_drew]; omega) | omega) _ | refine Below.setCell ?_ (by first | exact Nat.le_refl _ | (simp only [World.size_alloc, World.size_setCell, World.size_drew]; omega) | omega) _ | refine Below.drew ?_))⟩
  | some ad =>
    have hx1 := hx.alloc (.cells #[] 3)
    go_enter Try.func36, Try.ntmps36
    go_wp2_with (at_builtin; refine wpList_append_own _ rfl _ _ 22 rfl w.heap.size 3 i0 (.int .i64 0) 1 8 Try.underlying22 hi hz0 hz1 hz2 rfl (by decide) _ 0 [] rfl hown ad xs.length cap (xs.map (Value.int .i64)) rfl (by simp) ?c1 ?c2 ?c3 ?c4 ?c5 ?_)
    case c1 => exact rd_news hx1
    case c2 => exact ints_one xs
    case c3 => unfold maxLen; omega
    case c4 => omega
    case c5 => simp
    · intro v' w1 hown' hgrow _
      try simp only [Nat.zero_add, List.nil_append] at hown'
      have hb : Below w.heap.size w w1 := ((Below.refl _ _).alloc (Nat.le_refl _) _).grown hgrow (by simp) (fun b e => by simp [Value.ownBlock] at e; omega)
      obtain ⟨a', cap', rfl⟩ := OwnI.form (xs := xs) hown'
      have HO := Lib.hid hown'
      clear hown' hgrow hown
      go_wp2_with fail
      go_ret
      exact ⟨a', cap', rfl, HO.out, hb⟩

/-- the list of f 0, .., f (k - 1) -/
def fmap (f : Nat → Int) (k : Nat) : List Int := (List.range k).map f
theorem fmap_len (f : Nat → Int) (k : Nat) : (fmap f k).length = k := by simp [fmap]
theorem fmap_nth (f : Nat → Int) {k i : Nat} (h : i < k) : nth (fmap f k) i = f i := by simp [nth, fmap, h]
theorem fmap_succ (f : Nat → Int) (k : Nat) : fmap f (k+1) = fmap f k ++ [f k] := by simp [fmap, List.range_succ]
/-- one store more into a row that was made -/
theorem fill_step (f : Nat → Int) (m k : Nat) (h : k < m) :
    ((fmap f k ++ List.replicate (m - k) (0:Int)).map (Value.int .i64)).set k (.int .i64 (f k)) = (fmap f (k+1) ++ List.replicate (m - (k+1)) (0:Int)).map (Value.int .i64) := by
  apply List.ext_getElem?
  intro j
  rw [List.getElem?_set]
  by_cases hj : k = j
  · subst hj
    rw [if_pos rfl, if_pos (by simp [fmap_len]; omega), List.getElem?_map, List.getElem?_append_left (by rw [fmap_len]; omega)]
    simp [fmap]
  · simp only [hj, if_false, List.getElem?_map, List.getElem?_append, fmap_len, List.getElem?_replicate]
    by_cases h1 : j < k
    · have h2 : j < k + 1 := by omega
      simp [h1, h2, fmap]
    · have h2 : ¬ j < k + 1 := by omega
      have h3 : j - k < m - k ↔ j - (k+1) < m - (k+1) := by omega
      simp [h1, h2, h3]
theorem fill_end (f : Nat → Int) (m : Nat) : fmap f m ++ List.replicate (m - m) (0:Int) = fmap f m := by simp
/-- the row that a make of m integers has made -/
theorem made_ints {w1 : World} {B : Nat} {v : Value} {m : Nat} (f : Nat → Int) (h : w1.ownsRow B 3 1 v m (madeCells (Value.int .i64 0).cells (m * 1)).toList) :
    w1.ownsRow B 3 1 v m ((fmap f 0 ++ List.replicate (m - 0) (0:Int)).map (Value.int .i64)) := by
  simpa [Value.cells, toList_madeCells_one, fmap] using h

/-- a row of m integers of which the first k are filled, f 0 .. -/
def rowF (f : Nat → Int) (m k : Nat) : List Int := fmap f k ++ List.replicate (m - k) 0
theorem rowF_len (f : Nat → Int) {m k : Nat} (h : k ≤ m) : (rowF f m k).length = m := by simp [rowF, fmap_len]; omega
theorem rowF_set (f : Nat → Int) {m k : Nat} (h : k < m) : (rowF f m k).set k (f k) = rowF f m (k+1) := by
  apply List.ext_getElem?
  intro j
  rw [List.getElem?_set]
  by_cases hj : k = j
  · subst hj
    rw [if_pos rfl, if_pos (by rw [rowF_len f (by omega)]; exact h), rowF, List.getElem?_append_left (by rw [fmap_len]; omega)]
    simp [fmap]
  · simp only [hj, if_false, rowF, List.getElem?_append, fmap_len, List.getElem?_replicate]
    by_cases h1 : j < k
    · have h2 : j < k + 1 := by omega
      simp [h1, h2, fmap]
    · have h2 : ¬ j < k + 1 := by omega
      have h3 : j - k < m - k ↔ j - (k+1) < m - (k+1) := by omega
      simp [h1, h2, h3]
theorem rowF_zero (f : Nat → Int) {m k : Nat} (h : k < m) : (rowF f m k).set k 0 = rowF f m k := by
  apply List.ext_getElem?
  intro j
  rw [List.getElem?_set]
  by_cases hj : k = j
  · subst hj
    rw [if_pos rfl, if_pos (by rw [rowF_len f (by omega)]; exact h), rowF, List.getElem?_append_right (by rw [fmap_len]; omega)]
    rw [fmap_len, Nat.sub_self, List.getElem?_replicate, if_pos (by omega)]
  · simp [hj]
theorem rowF_end (f : Nat → Int) (m : Nat) : rowF f m m = fmap f m := by simp [rowF]
theorem made_row {w1 : World} {B : Nat} {v : Value} {m : Nat} (f : Nat → Int) (h : w1.ownsRow B 3 1 v m (madeCells (Value.int .i64 0).cells (m * 1)).toList) : OwnI w1 B v (rowF f m 0) := by
  unfold OwnI
  rw [rowF_len f (Nat.zero_le _)]
  simpa [Value.cells, toList_madeCells_one, fmap, rowF] using h

set_option maxRecDepth 100000 in
theorem seStairs_any (n : Nat) (hn : n ≤ 6) : ∀ (d : Nat) (a : Option Addr) (ys : List Int) (cap : Nat) (w : World), ys.length + d = n → (∀ j, j < ys.length → 0 ≤ nth ys j ∧ nth ys j ≤ (j : Int)) → Rd w a ys →
    Calls Try.prog 25 #[.slice a ys.length cap, .int .i64 (n : Int)] w fun e w' => ∃ a' cap' vl, e = .returned (.slice a' (stS d ys).length cap') ∧ RowsO w' w.heap.size (.slice a' (stS d ys).length cap') vl (stS d ys) ∧ Below w.heap.size w w'
  | 0, a, ys, cap, w, hl, hv, hx => by
    have h0 : ((ys.length : Int) == (n : Int)) = true := by simp; omega
    have hl6 : ys.length ≤ 6 := by omega
    have HE : Hid (stS 0 ys = [ys]) := rfl
    go_enter Try.func25, Try.ntmps25
    clear hl
    go_wp2_with fail
    refine (l1Own_any _ _ _ _ hx (by omega)).mono ?_
    rintro e w2 ⟨a2, c2, rfl, hown, hb2⟩
    go_wp2_with fail
    go_ret
    refine ⟨some ⟨w2.heap.size, 0, none⟩, 1, [.slice a2 ys.length c2], by rw [HE.out]; rfl, ?_, hb2.alloc hb2.size _⟩
    rw [HE.out]
    refine ⟨World.ownsRow_lit w2 #[.slice a2 ys.length c2] 1 hb2.size (by unfold maxLen; omega) rfl, fun k hk => ?_, fun k hk c hc => ?_⟩
    · obtain rfl : k = 0 := by simp at hk; omega
      exact hown.alloc _
    · obtain rfl : k = 0 := by simp at hk; omega
      have := (hown.lt c hc).2
      simp only [Value.ownBlock, ne_eq, Option.some.injEq]
      omega
  | d+1, a, ys, cap, w, hl, hv, hx => by
    obtain ⟨i0, hi, hz0, hz1, hz2⟩ := info_parts infoInt
    obtain ⟨j0, hj, hy0, hy1, hy2⟩ := info_parts infoSlice
    have h0 : ((ys.length : Int) == (n : Int)) = false := by simp; omega
    have hl6 : ys.length ≤ 6 := by omega
    have HLA : Hid (lastN ys ≤ ys.length) := by
      rw [Hid, lastN]
      by_cases hp : 0 < ys.length
      · have := hv (ys.length - 1) (by omega); omega
      · obtain rfl : ys = [] := List.eq_nil_of_length_eq_zero (by omega)
        simp [nth]
    have HIH : Hid (∀ (x : Nat) (a : Option Addr) (cap : Nat) (w : World), x < ys.length + 1 - lastN ys → Rd w a (ys ++ [((lastN ys + x : Nat) : Int)]) → Calls Try.prog 25 #[.slice a (ys.length + 1) cap, .int .i64 (n : Int)] w fun e w' => ∃ a' cap' vl, e = .returned (.slice a' (stS d (ys ++ [((lastN ys + x : Nat) : Int)])).length cap') ∧ RowsO w' w.heap.size (.slice a' (stS d (ys ++ [((lastN ys + x : Nat) : Int)])).length cap') vl (stS d (ys ++ [((lastN ys + x : Nat) : Int)])) ∧ Below w.heap.size w w') := by
      intro x a cap w hx hr
      have hvv : ∀ j, j < (ys ++ [((lastN ys + x : Nat) : Int)]).length → 0 ≤ nth (ys ++ [((lastN ys + x : Nat) : Int)]) j ∧ nth (ys ++ [((lastN ys + x : Nat) : Int)]) j ≤ (j : Int) := by
        intro j hj
        by_cases e : j < ys.length
        · rw [nth_snoc_lt e]; exact hv j e
        · obtain rfl : j = ys.length := by simp at hj; omega
          rw [nth_snoc_at]; omega
      have := seStairs_any n hn d a (ys ++ [((lastN ys + x : Nat) : Int)]) cap w (by simp; omega) hvv hr
      rw [show (ys ++ [((lastN ys + x : Nat) : Int)]).length = ys.length + 1 by simp] at this
      exact this
    have HE : Hid (stS (d+1) ys = catTo (fun x => stS d (ys ++ [((lastN ys + x : Nat) : Int)])) (ys.length + 1 - lastN ys)) := rfl
    have h7 := seven_le (d := d) (by omega)
    have HR : Hid (∀ x, x < ys.length + 1 - lastN ys → (stS d (ys ++ [((lastN ys + x : Nat) : Int)])).length ≤ 70000000000) := fun x hx => by
      have := stS_len d (ys ++ [((lastN ys + x : Nat) : Int)]) (by simp; omega)
      omega
    have HC : Hid (∀ k, k ≤ ys.length + 1 - lastN ys → (catTo (fun x => stS d (ys ++ [((lastN ys + x : Nat) : Int)])) k).length ≤ 490000000000) := fun k hk => by
      rw [catTo_len]
      have := sumTo_le (f := fun x => (stS d (ys ++ [((lastN ys + x : Nat) : Int)])).length) (k := k) (fun j hj => HR.out j (by omega))
      have := Nat.mul_le_mul (show k ≤ 7 by omega) (Nat.le_refl 70000000000)
      omega
    clear h7
    have HLD : Hid (lastN ys = (nth ys (ys.length - 1)).toNat) := rfl
    obtain ⟨L, hL⟩ : ∃ L, L = lastN ys := ⟨_, rfl⟩
    rw [← hL] at HE HC HIH HR HLA HLD
    obtain ⟨F, hF⟩ : ∃ F, F = fun x : Nat => stS d (ys ++ [((L + x : Nat) : Int)]) := ⟨_, rfl⟩
    have HF : Hid (∀ x : Nat, stS d (ys ++ [((L + x : Nat) : Int)]) = F x) := fun x => by rw [hF]
    rw [← hF] at HE HC
    have hLl := HLA.out
    obtain ⟨M, hM⟩ : ∃ M, ys.length + 1 = L + M := ⟨ys.length + 1 - L, by omega⟩
    have HM : Hid (ys.length + 1 - L = M) := by rw [Hid]; omega
    rw [HM.out] at HE HC HIH HR
    have hM1 : ys.length + 1 ≤ L + M := by omega
    have hM2 : L + M ≤ ys.length + 1 := by omega
    have hv0 : ∀ j, j < ys.length → 0 ≤ nth ys j := fun j hj => (hv j hj).1
    have HV0 := Lib.hid hv0
    clear hF hL hl hv hM hv0
    by_cases hp : 0 < ys.length
    · have ⟨b0, off0, ea, hbl0, hc0⟩ := hx.cell (ys.length - 1) (by omega)
      have HVL : Hid (nth ys (ys.length - 1) = (L : Int)) := by
        have := HV0.out (ys.length - 1) (by omega)
        have := HLD.out
        rw [Hid]; omega
      rw [HVL.out] at hc0
      have hcast : ((ys.length : Int) - 1) = ((ys.length - 1 : Nat) : Int) := by omega
      subst ea
      go_enter Try.func25, Try.ntmps25
      go_wp2_with fail
      go_loopw [6, 7] (fun v i wr => ∃ k : Nat, k ≤ M ∧ i = .int .i64 ((L + k : Nat) : Int) ∧ (∃ vl, RowsO wr w.heap.size v vl (catTo F k)) ∧ Below w.heap.size w wr) (fun _ i _ => L + M - (intOf i).toNat)
      case atStart => exact ⟨0, Nat.zero_le _, rfl, ⟨[], RowsO.nil _ _⟩, Below.refl _ _⟩
      case round =>
        obtain ⟨k, hk, rfl, ⟨vl, hro⟩, hb⟩ := hrel
        obtain ⟨av, cv, rfl⟩ := hro.form
        have hbs := hb.size
        by_cases hlt : k < M
        · have k1 : ((L + k : Nat) : Int) ≤ (ys.length : Int) := by omega
          have hxr := hx.below hb
          have HRO := Lib.hid hro
          clear hro
          go_wp2_with fail
          refine (l1Own_any _ _ _ _ hxr (by omega)).mono ?_
          rintro e w2 ⟨a2, c2, rfl, hown2, hb2⟩
          have hbs2 := hb2.size
          go_wp2_with (at_builtin; refine wpList_append_own _ rfl _ _ 22 rfl wr.heap.size 3 i0 (.int .i64 0) 1 8 Try.underlying22 hi hz0 hz1 hz2 rfl (by decide) (.slice a2 ys.length c2) ys.length (ys.map (Value.int .i64)) rfl (hown2.alloc _) ⟨w2.heap.size, 0, none⟩ 1 1 [.int .i64 ((L + k : Nat) : Int)] rfl rfl (cell_one_new _ _ _) (by intro u hu; simp at hu; subst hu; rfl) (by unfold maxLen; omega) (by omega) (by simp; omega) ?_)
          intro v3 w3 hown3 hgrow _
          have hg2 := grown_alloc_set hgrow
          have hU := hown2.lt
          have b3 : Below wr.heap.size wr w3 := hb2.trans (below_of_grown hg2 (fun c e => (hU c e).1) hbs2)
          have o3 : OwnI w3 wr.heap.size v3 (ys ++ [((L + k : Nat) : Int)]) := by
            unfold OwnI
            rw [List.length_append, List.map_append]
            exact hown3
          obtain ⟨a3, c3, rfl⟩ := o3.form
          rw [show (ys ++ [((L + k : Nat) : Int)]).length = ys.length + 1 by simp] at o3 ⊢
          have hbs3 := b3.size
          clear hown3 hgrow hU hg2
          go_wp2_with fail
          refine (HIH.out k a3 c3 w3 hlt o3.rd).mono ?_
          rintro e w4 ⟨a4, c4, vl2, rfl, hr4, hb4⟩
          have b4 : Below wr.heap.size wr w4 := b3.trans (hb4.mono b3.size)
          have hbs4 := b4.size
          have hro4 := HRO.out.below b4 (Nat.le_refl _)
          have hlr := HR.out k hlt
          have hlc := HC.out k hk
          rw [HF.out k] at hr4 hlr ⊢
          have HN : Hid (catTo F (k+1) = catTo F k ++ F k) := rfl
          have hlt4 := HRO.out.lt
          have bw4 : Below w.heap.size w w4 := hb.trans (b4.mono hbs)
          clear o3 hbs2 hown2 hb2 hb4
          have hlen2 := hr4.vlen
          rcases hr4.own.2 with ⟨e, h00⟩ | ⟨g, cap', cur, e, hbg, hg, hnc, hcm, hcs, htk⟩
          · simp only [Value.slice.injEq] at e
            obtain ⟨rfl, e2, rfl⟩ := e
            have HN2 : Hid (catTo F (k+1) = catTo F k) := by rw [Hid, HN.out, List.eq_nil_of_length_eq_zero h00, List.append_nil]
            rw [h00]
            clear e2 h00
            go_wp2_with (at_builtin; refine wpList_append_none rfl _ _ 32 rfl w.heap.size 22 j0 1 Try.underlying32 hj _ _ _ _ rfl hro4.own rfl ?_)
            go_wp2_with fail
            go_roundw
            case rel => exact ⟨k + 1, by omega, by go_num, ⟨vl, by rw [HN2.out]; exact hro4⟩, bw4⟩
            case measure => simp [intOf]; omega
          · simp only [Value.slice.injEq] at e
            obtain ⟨rfl, _, rfl⟩ := e
            go_wp2_with (at_builtin; refine wpList_append_own_at _ rfl _ _ 32 rfl w.heap.size 22 j0 (.slice none 0 0) 1 24 Try.underlying32 hj hy0 hy1 hy2 rfl (by decide) (.slice av (catTo F k).length cv) (catTo F k).length vl rfl hro4.own ⟨g, 0, none⟩ (F k).length c4 vl2 rfl (by omega) ?c1 ?c2 (by unfold maxLen; omega) (by omega) (by omega) ?_)
            case c1 =>
              intro j u hj
              have hj2 := (List.getElem?_eq_some_iff.1 hj).1
              rw [Addr.add_lit, Nat.zero_add, World.ownsRow.cellAt hr4.own j (by omega)]
              exact hj
            case c2 =>
              intro u hu
              obtain ⟨j, hj2, e⟩ := List.mem_iff_getElem.1 hu
              obtain ⟨a6, c6, e6⟩ := (hr4.row j (by omega)).form
              have e7 := valAt_get hj2
              rw [List.getElem?_eq_getElem hj2, e, e6] at e7
              simp only [Option.some.injEq] at e7
              rw [e7]; rfl
            · intro v5 w5 hown5 hgrow _ hat
              have b5 := below_of_grown hgrow (fun c e => (hlt4 c e).1) (by omega : w.heap.size ≤ w4.heap.size)
              have o5 := hro4.cat hr4 (by omega) (fun c e => by have := (hlt4 c e).2; omega) hown5 hgrow hat
              clear hown5 hgrow hat
              go_wp2_with fail
              go_roundw
              case rel => exact ⟨k + 1, by omega, by go_num, ⟨vl ++ vl2, by rw [HN.out]; exact o5⟩, bw4.trans b5⟩
              case measure => simp [intOf]; omega
        · obtain rfl : k = M := by omega
          go_wp2_with fail
          go_ret
          exact ⟨av, cv, vl, by rw [HE.out]; rfl, by rw [HE.out]; exact hro, hb⟩
    · have HL0 : Hid (L = 0) := by
        have := HLD.out
        have h8 : ys = [] := List.eq_nil_of_length_eq_zero (by omega)
        rw [h8] at this
        rw [Hid, this]; rfl
      go_enter Try.func25, Try.ntmps25
      go_wp2_with fail
      go_loopw [6, 7] (fun v i wr => ∃ k : Nat, k ≤ M ∧ i = .int .i64 ((L + k : Nat) : Int) ∧ (∃ vl, RowsO wr w.heap.size v vl (catTo F k)) ∧ Below w.heap.size w wr) (fun _ i _ => L + M - (intOf i).toNat)
      case atStart => exact ⟨0, Nat.zero_le _, by rw [HL0.out]; rfl, ⟨[], RowsO.nil _ _⟩, Below.refl _ _⟩
      case round =>
        obtain ⟨k, hk, rfl, ⟨vl, hro⟩, hb⟩ := hrel
        obtain ⟨av, cv, rfl⟩ := hro.form
        have hbs := hb.size
        by_cases hlt : k < M
        · have k1 : ((L + k : Nat) : Int) ≤ (ys.length : Int) := by omega
          have hxr := hx.below hb
          have HRO := Lib.hid hro
          clear hro
          go_wp2_with fail
          refine (l1Own_any _ _ _ _ hxr (by omega)).mono ?_
          rintro e w2 ⟨a2, c2, rfl, hown2, hb2⟩
          have hbs2 := hb2.size
          go_wp2_with (at_builtin; refine wpList_append_own _ rfl _ _ 22 rfl wr.heap.size 3 i0 (.int .i64 0) 1 8 Try.underlying22 hi hz0 hz1 hz2 rfl (by decide) (.slice a2 ys.length c2) ys.length (ys.map (Value.int .i64)) rfl (hown2.alloc _) ⟨w2.heap.size, 0, none⟩ 1 1 [.int .i64 ((L + k : Nat) : Int)] rfl rfl (cell_one_new _ _ _) (by intro u hu; simp at hu; subst hu; rfl) (by unfold maxLen; omega) (by omega) (by simp; omega) ?_)
          intro v3 w3 hown3 hgrow _
          have hg2 := grown_alloc_set hgrow
          have hU := hown2.lt
          have b3 : Below wr.heap.size wr w3 := hb2.trans (below_of_grown hg2 (fun c e => (hU c e).1) hbs2)
          have o3 : OwnI w3 wr.heap.size v3 (ys ++ [((L + k : Nat) : Int)]) := by
            unfold OwnI
            rw [List.length_append, List.map_append]
            exact hown3
          obtain ⟨a3, c3, rfl⟩ := o3.form
          rw [show (ys ++ [((L + k : Nat) : Int)]).length = ys.length + 1 by simp] at o3 ⊢
          have hbs3 := b3.size
          clear hown3 hgrow hU hg2
          go_wp2_with fail
          refine (HIH.out k a3 c3 w3 hlt o3.rd).mono ?_
          rintro e w4 ⟨a4, c4, vl2, rfl, hr4, hb4⟩
          have b4 : Below wr.heap.size wr w4 := b3.trans (hb4.mono b3.size)
          have hbs4 := b4.size
          have hro4 := HRO.out.below b4 (Nat.le_refl _)
          have hlr := HR.out k hlt
          have hlc := HC.out k hk
          rw [HF.out k] at hr4 hlr ⊢
          have HN : Hid (catTo F (k+1) = catTo F k ++ F k) := rfl
          have hlt4 := HRO.out.lt
          have bw4 : Below w.heap.size w w4 := hb.trans (b4.mono hbs)
          clear o3 hbs2 hown2 hb2 hb4
          have hlen2 := hr4.vlen
          rcases hr4.own.2 with ⟨e, h00⟩ | ⟨g, cap', cur, e, hbg, hg, hnc, hcm, hcs, htk⟩
          · simp only [Value.slice.injEq] at e
            obtain ⟨rfl, e2, rfl⟩ := e
            have HN2 : Hid (catTo F (k+1) = catTo F k) := by rw [Hid, HN.out, List.eq_nil_of_length_eq_zero h00, List.append_nil]
            rw [h00]
            clear e2 h00
            go_wp2_with (at_builtin; refine wpList_append_none rfl _ _ 32 rfl w.heap.size 22 j0 1 Try.underlying32 hj _ _ _ _ rfl hro4.own rfl ?_)
            go_wp2_with fail
            go_roundw
            case rel => exact ⟨k + 1, by omega, by go_num, ⟨vl, by rw [HN2.out]; exact hro4⟩, bw4⟩
            case measure => simp [intOf]; omega
          · simp only [Value.slice.injEq] at e
            obtain ⟨rfl, _, rfl⟩ := e
            go_wp2_with (at_builtin; refine wpList_append_own_at _ rfl _ _ 32 rfl w.heap.size 22 j0 (.slice none 0 0) 1 24 Try.underlying32 hj hy0 hy1 hy2 rfl (by decide) (.slice av (catTo F k).length cv) (catTo F k).length vl rfl hro4.own ⟨g, 0, none⟩ (F k).length c4 vl2 rfl (by omega) ?c1 ?c2 (by unfold maxLen; omega) (by omega) (by omega) ?_)
            case c1 =>
              intro j u hj
              have hj2 := (List.getElem?_eq_some_iff.1 hj).1
              rw [Addr.add_lit, Nat.zero_add, World.ownsRow.cellAt hr4.own j (by omega)]
              exact hj
            case c2 =>
              intro u hu
              obtain ⟨j, hj2, e⟩ := List.mem_iff_getElem.1 hu
              obtain ⟨a6, c6, e6⟩ := (hr4.row j (by omega)).form
              have e7 := valAt_get hj2
              rw [List.getElem?_eq_getElem hj2, e, e6] at e7
              simp only [Option.some.injEq] at e7
              rw [e7]; rfl
            · intro v5 w5 hown5 hgrow _ hat
              have b5 := below_of_grown hgrow (fun c e => (hlt4 c e).1) (by omega : w.heap.size ≤ w4.heap.size)
              have o5 := hro4.cat hr4 (by omega) (fun c e => by have := (hlt4 c e).2; omega) hown5 hgrow hat
              clear hown5 hgrow hat
              go_wp2_with fail
              go_roundw
              case rel => exact ⟨k + 1, by omega, by go_num, ⟨vl ++ vl2, by rw [HN.out]; exact o5⟩, bw4.trans b5⟩
              case measure => simp [intOf]; omega
        · obtain rfl : k = M := by omega
          go_wp2_with fail
          go_ret
          exact ⟨av, cv, vl, by rw [HE.out]; rfl, by rw [HE.out]; exact hro, hb⟩

theorem l1In_any (n lo hi : Int) (w : World) :
    Calls Try.prog 24 #[.int .i64 n, .int .i64 lo, .int .i64 hi] w fun e w' => e = .returned (.bool (inB n lo hi)) ∧ w = w' := by
  go_enter Try.func24, Try.ntmps24
  go_wp2
  all_goals (go_ret; exact ⟨ret_bool (by simp [inB]; try omega), rfl⟩)
theorem l1In_is {n lo hi : Int} {b : Bool} (h : inB n lo hi = b) (w : World) (m : Nat) :
    Calls Try.prog 24 #[.int .i64 n, .int .i64 lo, .int .i64 hi] (w.drewN m) fun e w' => e = .returned (.bool b) ∧ ∃ k, w' = w.drewN k :=
  Calls.quiet_of_same ((l1In_any n lo hi (w.drewN m)).mono (fun e w' hh => ⟨by rw [← h]; exact hh.1, hh.2.symm⟩))

set_option maxRecDepth 100000 in
theorem sStairs_any (n : Int) (w : World) (hn : -9223372036854775808 ≤ n ∧ n ≤ 9223372036854775807) :
    Calls Try.prog 10 #[.int .i64 n] w fun e w' => ∃ a' cap' vl, e = .returned (.tuple #[.slice a' (ssL n).length cap', .bool (ssB n)]) ∧ RowsO w' w.heap.size (.slice a' (ssL n).length cap') vl (ssL n) ∧ Below w.heap.size w w' := by
  have HNO : Hid (ssB n = false → ssL n = []) := fun hh => by simp [ssL, hh]
  cases h : inB n 0 6
  · have H2 : Hid (ssB n = false) := h
    have HI := Lib.hid h
    clear h
    go_enter Try.func10, Try.ntmps10
    go_wp2_with fail
    refine (l1In_any _ _ _ _).mono ?_
    rintro e w' ⟨rfl, rfl⟩
    rw [HI.out]
    go_wp2_with fail
    refine bodyPost_ret (v := .tuple #[.slice none 0 0, .bool false]) (by simp [results, Try.results10, go_sem]) rfl ?_
    first | exact ⟨none, 0, [], by rw [HNO.out H2.out, H2.out]; rfl, by rw [HNO.out H2.out]; exact RowsO.nil _ _, Below.refl _ _⟩ | exact ⟨none, 0, by rw [HNO.out H2.out, H2.out]; rfl, ⟨[], by rw [HNO.out H2.out]; exact RowsO.nil _ _⟩, Below.refl _ _⟩
  · have ⟨h0, h1⟩ := inB_iff.1 h
    obtain ⟨N, rfl⟩ := Int.eq_ofNat_of_zero_le h0
    have H2 : Hid (ssB (N : Int) = true) := h
    have H1 : Hid (ssL (N : Int) = stS N []) := by rw [Hid, ssL, if_pos H2.out]; rfl
    have HI := Lib.hid h
    have hcall := seStairs_any N (by omega) N none [] 0 w (by simp) (fun j hj => by simp at hj) ⟨by simp, fun k hk => by simp at hk⟩
    have HCL := Lib.hid hcall
    clear h h0 hcall
    go_enter Try.func10, Try.ntmps10
    go_wp2_with fail
    refine (l1In_any _ _ _ _).mono ?_
    rintro e w' ⟨rfl, rfl⟩
    rw [HI.out]
    go_wp2_with fail
    refine HCL.out.mono ?_
    rintro e w2 ⟨a2, c2, vl, rfl, hro, hb2⟩
    go_wp2_with fail
    refine bodyPost_ret (v := .tuple #[.slice a2 (stS N []).length c2, .bool true]) (by simp [results, Try.results10, go_sem]) rfl ?_
    first | exact ⟨a2, c2, vl, by rw [H1.out, H2.out], by rw [H1.out]; exact hro, hb2⟩ | exact ⟨a2, c2, by rw [H1.out, H2.out], ⟨vl, by rw [H1.out]; exact hro⟩, hb2⟩

/-- the marks k, k + 1, .. -/
def marks (k : Int) (n : Nat) : List Int := (List.range n).map (fun (j : Nat) => k + (j : Int))
theorem marks_len (k : Int) (n : Nat) : (marks k n).length = n := by simp [marks]
theorem marks_nth {k : Int} {n j : Nat} (h : j < n) : nth (marks k n) j = k + j := by
  simp [nth, marks, h]
theorem mark_step (k : Int) (xs : List Int) (j : Nat) (h : j < xs.length) :
    ((marks k j ++ xs.drop j).map (Value.int .i64)).set j (.int .i64 (k + j)) = (marks k (j+1) ++ xs.drop (j+1)).map (Value.int .i64) := by
  apply List.ext_getElem?
  intro i
  rw [List.getElem?_set]
  by_cases hj : j = i
  · subst hj
    rw [if_pos rfl, if_pos (by simp [marks_len]; omega), List.getElem?_map, List.getElem?_append_left (by rw [marks_len]; omega)]
    simp [marks]
  · simp only [hj, if_false, List.getElem?_map, List.getElem?_append, marks_len, List.getElem?_drop]
    by_cases h1 : i < j
    · have h2 : i < j + 1 := by omega
      simp [h1, h2, marks]
    · have h2 : ¬ i < j + 1 := by omega
      have h3 : j + (i - j) = j + 1 + (i - (j + 1)) := by omega
      simp [h1, h2, h3]
theorem own_ne {v u : Value} (h : ∀ c, v.ownBlock = some c → u.ownBlock ≠ some c) : v.ownBlock = none ∨ v.ownBlock ≠ u.ownBlock := by
  cases hv : v.ownBlock with
  | none => exact .inl rfl
  | some c => exact .inr (fun e => h c hv e.symm)

/-- rows that have been made, each in a block of its own -/
structure RowsP (w : World) (B : Nat) (v : Value) (vl : List Value) (xss : List (List Int)) : Prop where
  o : RowsO w B v vl xss
  pair : ∀ j k, j < k → k < xss.length → ∀ c, (valAt vl j).ownBlock = some c → (valAt vl k).ownBlock ≠ some c
theorem RowsP.below {w w' : World} {B B' : Nat} {v : Value} {vl : List Value} {xss : List (List Int)} (h : RowsP w B v vl xss) (hb : Below B' w w') (hB : w.heap.size ≤ B') : RowsP w' B v vl xss := ⟨h.o.below hb hB, h.pair⟩
theorem RowsP.mono {w : World} {B B' : Nat} {v : Value} {vl : List Value} {xss : List (List Int)} (h : RowsP w B v vl xss) (hB : B' ≤ B) : RowsP w B' v vl xss := ⟨h.o.mono hB, h.pair⟩
theorem RowsP.nil (w : World) (B : Nat) : RowsP w B (.slice none 0 0) [] [] := ⟨RowsO.nil w B, fun j k _ hk => by simp at hk⟩
/-- one row in a new outer row -/
theorem RowsO.one {w : World} {B n c : Nat} {a : Option Addr} {r : List Int} (h : OwnI w B (.slice a n c) r) (hB : B ≤ w.heap.size) : RowsO (w.alloc (.cells #[.slice a n c] 22)) B (.slice (some ⟨w.heap.size, 0, none⟩) 1 1) [.slice a n c] [r] := by
  refine ⟨World.ownsRow_lit w #[.slice a n c] 1 hB (by unfold maxLen; omega) rfl, fun k hk => ?_, fun k hk d hd => ?_⟩
  · obtain rfl : k = 0 := by simp at hk; omega
    exact h.alloc _
  · obtain rfl : k = 0 := by simp at hk; omega
    have := (h.lt d hd).2
    simp only [Value.ownBlock, ne_eq, Option.some.injEq]
    omega
theorem RowsP.one {w : World} {B n c : Nat} {a : Option Addr} {r : List Int} (h : OwnI w B (.slice a n c) r) (hB : B ≤ w.heap.size) : RowsP (w.alloc (.cells #[.slice a n c] 22)) B (.slice (some ⟨w.heap.size, 0, none⟩) 1 1) [.slice a n c] [r] :=
  ⟨RowsO.one h hB, fun j k h1 h2 => by simp at h2; omega⟩
theorem RowsP.cat {w w' : World} {B C : Nat} {v v2 v' : Value} {vl vl2 : List Value} {xss yss : List (List Int)} (h : RowsP w B v vl xss) (h2 : RowsP w C v2 vl2 yss) (hBC : B ≤ C) (hvC : ∀ c, v.ownBlock = some c → c < C) (hrC : ∀ k, k < xss.length → ∀ c, (valAt vl k).ownBlock = some c → c < C)
    (ho : w'.ownsRow B 22 1 v' (xss.length + yss.length) (vl ++ vl2)) (hg : w.grownBy w' v.ownBlock) (hv' : v'.ownBlock = v.ownBlock ∨ v'.ownBlock = some w.heap.size) : RowsP w' B v' (vl ++ vl2) (xss ++ yss) := by
  refine ⟨h.o.cat h2.o hBC hvC ho hg hv', fun j k hjk hk c hc => ?_⟩
  have hl := h.o.vlen
  have hl2 := h2.o.vlen
  rw [List.length_append] at hk
  have e1 : ∀ k, k < xss.length → valAt (vl ++ vl2) k = valAt vl k := fun k hk => by rw [valAt, valAt, List.getD_eq_getElem?_getD, List.getD_eq_getElem?_getD, List.getElem?_append_left (by omega)]
  have e2 : ∀ k, xss.length ≤ k → valAt (vl ++ vl2) k = valAt vl2 (k - xss.length) := fun k hk => by rw [valAt, valAt, List.getD_eq_getElem?_getD, List.getD_eq_getElem?_getD, List.getElem?_append_right (by omega), hl]
  by_cases hk2 : k < xss.length
  · rw [e1 k hk2]
    rw [e1 j (by omega)] at hc
    exact h.pair j k hjk hk2 c hc
  · rw [e2 k (by omega)]
    by_cases hj2 : j < xss.length
    · rw [e1 j hj2] at hc
      have h3 := hrC j hj2 c hc
      intro h4
      have := ((h2.o.row (k - xss.length) (by omega)).lt c h4).1
      omega
    · rw [e2 j (by omega)] at hc
      exact h2.pair (j - xss.length) (k - xss.length) (by omega) (by omega) c hc
theorem RowsP.blk {w : World} {B : Nat} {v : Value} {vl : List Value} {xss : List (List Int)} (h : RowsP w B v vl xss) : (∀ c, v.ownBlock = some c → c < w.heap.size) ∧ ∀ k, k < xss.length → ∀ c, (valAt vl k).ownBlock = some c → c < w.heap.size :=
  ⟨fun c e => (h.o.lt c e).2, fun k hk c e => ((h.o.row k hk).lt c e).2⟩
/-- what the rows hold when they have been marked -/
def mkS (xss : List (List Int)) (k : Int) : List (List Int) := (List.range xss.length).map fun j => marks (k + ((totS xss j : Nat) : Int)) (rowL xss j).length
theorem mkS_len (xss : List (List Int)) (k : Int) : (mkS xss k).length = xss.length := by simp [mkS]
theorem mkS_row {xss : List (List Int)} {k : Int} {j : Nat} (h : j < xss.length) : rowL (mkS xss k) j = marks (k + ((totS xss j : Nat) : Int)) (rowL xss j).length := by
  simp [mkS, rowL, h]

theorem sliceClone_any (a : Option Addr) (xs : List Int) (cap : Nat) (w : World) (hx : Rd w a xs) (hn : xs.length ≤ 1048576) :
    Calls Try.prog 26 #[.slice a xs.length cap] w fun e w' => ∃ a' cap', e = .returned (.slice a' xs.length cap') ∧ OwnI w' w.heap.size (.slice a' xs.length cap') xs ∧ Below w.heap.size w w' := by
  obtain ⟨i0, hi, hz0, hz1, hz2⟩ := info_parts infoInt
  have hown : (w.alloc (.cells #[] 3)).ownsRow w.heap.size 3 1 (.slice (some ⟨w.heap.size, 0, none⟩) 0 0) 0 [] := World.ownsRow_lit w #[] 0 (Nat.le_refl _) (by simp [maxLen]) (by simp)
  cases a with
  | none =>
    have h0 : xs = [] := by
      rcases xs with _ | ⟨x, t⟩
      · rfl
      · obtain ⟨b, off, e, _⟩ := hx.cell 0 (by simp)
        cases e
    subst h0
    have hq := Lib.run_eql_slice_nil (P := Try.prog) w 22 3 none 0 cap 0 0 Try.underlying22
    simp only [Option.isNone_none] at hq
    go_enter Try.func26, Try.ntmps26
    go_wp2_with fail
    go_ret
    exact ⟨none, 0, rfl, OwnI.nil _ _, Below.refl _ _⟩
  | some ad =>
    have hx1 := hx.alloc (.cells #[] 3)
    have hq := Lib.run_eql_slice_nil (P := Try.prog) w 22 3 (some ad) xs.length cap 0 0 Try.underlying22
    simp only [Option.isNone_some] at hq
    go_enter Try.func26, Try.ntmps26
    go_wp2_with (at_builtin; refine wpList_append_own _ rfl _ _ 22 rfl w.heap.size 3 i0 (.int .i64 0) 1 8 Try.underlying22 hi hz0 hz1 hz2 rfl (by decide) _ 0 [] rfl hown ad xs.length cap (xs.map (Value.int .i64)) rfl (by simp) ?c1 ?c2 ?c3 ?c4 ?c5 ?_)
    case c1 => exact rd_news hx1
    case c2 => exact ints_one xs
    case c3 => unfold maxLen; omega
    case c4 => omega
    case c5 => simp
    · intro v' w1 hown' hgrow _
      try simp only [Nat.zero_add, List.nil_append] at hown'
      have hb : Below w.heap.size w w1 := ((Below.refl _ _).alloc (Nat.le_refl _) _).grown hgrow (by simp) (fun b e => by simp [Value.ownBlock] at e; omega)
      obtain ⟨a', cap', rfl⟩ := OwnI.form (xs := xs) hown'
      have HO := Lib.hid hown'
      clear hown' hgrow hown
      go_wp2_with fail
      go_ret
      exact ⟨a', cap', rfl, HO.out, hb⟩

def KeepS (w : World) (B1 : Nat) (a : Option Addr) (k : Nat) (S : List (List Int)) : Prop := ∀ m, m < S.length → ∃ g off a' c', a = some ⟨g, off, none⟩ ∧ g < B1 ∧ ∀ w'', Below B1 w w'' → w''.cell? ⟨g, off + m, none⟩ = some (.slice a' k c') ∧ Rd w'' a' (rowL S m)
theorem KeepS.next {w w' : World} {B1 k : Nat} {a : Option Addr} {S : List (List Int)} (h : KeepS w B1 a k S) (hb : Below B1 w w') : KeepS w' B1 a k S := fun m hm => by
  obtain ⟨g, off, a', c', e, hg, hh⟩ := h m hm
  exact ⟨g, off, a', c', e, hg, fun w'' h2 => hh w'' (hb.trans h2)⟩
theorem KeepS.of {w : World} {k : Nat} {a : Option Addr} {S : List (List Int)} (h : RdS w a S) (hl : ∀ m, m < S.length → (rowL S m).length = k) : KeepS w w.heap.size a k S := fun m hm => by
  obtain ⟨g, off, a', c', e, hg, hc, hr⟩ := h.row m hm
  rw [hl m hm] at hc
  exact ⟨g, off, a', c', e, hg, fun w'' h2 => ⟨(h2.cell (p := ⟨g, off + m, none⟩) hg).trans hc, hr.below h2⟩⟩
def KeepR (w : World) (B1 : Nat) (a : Option Addr) (R : List Int) : Prop := ∀ w'', Below B1 w w'' → Rd w'' a R
theorem KeepR.next {w w' : World} {B1 : Nat} {a : Option Addr} {R : List Int} (h : KeepR w B1 a R) (hb : Below B1 w w') : KeepR w' B1 a R := fun w'' h2 => h w'' (hb.trans h2)
theorem stV_row {i : Nat} {r : List Int} (h : stV i r = true) : r.length = i ∧ ∀ j, j < i → 0 ≤ nth r j ∧ nth r j ≤ (j : Int) := by
  simp only [stV, Bool.and_eq_true, beq_iff_eq, List.all_eq_true, List.mem_range, decide_eq_true_eq] at h
  exact h
theorem rowL_in {xss : List (List Int)} {k : Nat} (h : k < xss.length) : rowL xss k ∈ xss := by
  rw [rowL, List.getD_eq_getElem?_getD, List.getElem?_eq_getElem h]
  exact List.getElem_mem h
theorem flat_take {g : List Int → List (List Int)} {S : List (List Int)} {m : Nat} (h : m < S.length) : (S.take (m+1)).flatMap g = (S.take m).flatMap g ++ g (rowL S m) := by
  rw [List.take_succ_eq_append_getElem h, List.flatMap_append, rowL, List.getD_eq_getElem?_getD, List.getElem?_eq_getElem h]
  simp
theorem catTo_ones {f : Nat → List (List Int)} (h : ∀ j, (f j).length = 1) : ∀ k, (catTo f k).length = k
  | 0 => rfl
  | k+1 => by rw [catTo, List.length_append, catTo_ones h k, h k]
set_option maxRecDepth 100000 in
theorem iStairs_any (n : Int) (w : World) (hn : -9223372036854775808 ≤ n ∧ n ≤ 9223372036854775807) :
    Calls Try.prog 11 #[.int .i64 n] w fun e w' => ∃ a' cap' vl, e = .returned (.tuple #[.slice a' (ssL n).length cap', .bool (ssB n)]) ∧ RowsP w' w.heap.size (.slice a' (ssL n).length cap') vl (ssL n) ∧ Below w.heap.size w w' := by
  obtain ⟨i0, hi, hz0, hz1, hz2⟩ := info_parts infoInt
  obtain ⟨j0, hj0, hy0, hy1, hy2⟩ := info_parts infoSlice
  have HNO : Hid (ssB n = false → ssL n = []) := fun hh => by simp [ssL, hh]
  by_cases h0 : n < 0
  · have H2 : Hid (ssB n = false) := inB_no.2 (by omega)
    go_enter Try.func11, Try.ntmps11
    go_wp2_with fail
    refine bodyPost_ret (v := .tuple #[.slice none 0 0, .bool false]) (by simp [results, Try.results11, go_sem]) rfl ?_
    first | exact ⟨none, 0, [], by rw [HNO.out H2.out, H2.out]; rfl, by rw [HNO.out H2.out]; exact RowsP.nil _ _, Below.refl _ _⟩ | exact ⟨none, 0, by rw [HNO.out H2.out, H2.out]; rfl, ⟨[], by rw [HNO.out H2.out]; exact RowsP.nil _ _⟩, Below.refl _ _⟩
  · by_cases h1 : 6 < n
    · have H2 : Hid (ssB n = false) := inB_no.2 (by omega)
      go_enter Try.func11, Try.ntmps11
      go_wp2_with fail
      refine bodyPost_ret (v := .tuple #[.slice none 0 0, .bool false]) (by simp [results, Try.results11, go_sem]) rfl ?_
      first | exact ⟨none, 0, [], by rw [HNO.out H2.out, H2.out]; rfl, by rw [HNO.out H2.out]; exact RowsP.nil _ _, Below.refl _ _⟩ | exact ⟨none, 0, by rw [HNO.out H2.out, H2.out]; rfl, ⟨[], by rw [HNO.out H2.out]; exact RowsP.nil _ _⟩, Below.refl _ _⟩
    · obtain ⟨N, rfl⟩ := Int.eq_ofNat_of_zero_le (by omega : 0 ≤ n)
      have hN : N ≤ 6 := by omega
      have H2 : Hid (ssB (N : Int) = true) := inB_iff.2 (by omega)
      have H1 : Hid (ssL (N : Int) = stS N []) := by rw [Hid, ssL, if_pos H2.out]; rfl
      have hr0 : OwnI (w.alloc (.cells #[] 3)) w.heap.size (.slice (some ⟨w.heap.size, 0, none⟩) 0 0) [] := World.ownsRow_lit w #[] 0 (Nat.le_refl _) (by simp [maxLen]) (by simp)
      have hr1 := RowsP.one hr0 (by simp)
      simp only [World.size_alloc] at hr1
      have hb0 : Below w.heap.size w ((w.alloc (.cells #[] 3)).alloc (.cells #[.slice (some ⟨w.heap.size, 0, none⟩) 0 0] 22)) := ((Below.refl _ _).alloc (Nat.le_refl _) _).alloc (by simp) _
      have HR1 := Lib.hid hr1
      clear h0 h1 hr0 hr1
      go_enter Try.func11, Try.ntmps11
      go_wp2_with fail
      go_loopw [4, 20] (fun v i wr => ∃ k : Nat, k ≤ N ∧ i = .int .i64 k ∧ (∃ vl, RowsP wr w.heap.size v vl (stS k [])) ∧ Below w.heap.size w wr) (fun _ i _ => N - (intOf i).toNat)
      case atStart => exact ⟨0, Nat.zero_le _, rfl, ⟨_, HR1.out⟩, hb0⟩
      case round =>
        obtain ⟨k, hk, rfl, ⟨vl, hro⟩, hb⟩ := hrel
        obtain ⟨av, cv, rfl⟩ := hro.o.form
        by_cases hlt : k < N
        · have k1 : (k : Int) < (N : Int) := by omega
          have HNX : Hid (stS (k+1) [] = (stS k []).flatMap extS) := stS_succ k []
          have HSV : Hid (∀ m, m < (stS k []).length → stV k (rowL (stS k []) m) = true) := fun m hm => List.all_eq_true.1 (stS_ok ⟨k, by omega⟩) _ (rowL_in hm)
          have hS132 : (stS k []).length ≤ 132 := stS_small ⟨k, by omega⟩
          have HCUT : Hid (∀ m, m ≤ (stS k []).length → (((stS k []).take m).flatMap extS).length ≤ 1048576) := fun m hm => stS_cut ⟨k, by omega⟩ ⟨m, by omega⟩
          obtain ⟨S, hS⟩ : ∃ S, S = stS k [] := ⟨_, rfl⟩
          rw [← hS] at HNX HSV hS132 HCUT hro ⊢
          have hks0 : KeepS wr wr.heap.size av k S := KeepS.of hro.o.rd (fun m hm => (stV_row (HSV.out m hm)).1)
          have hwB0 := hb.size
          obtain ⟨B1, hB1⟩ : ∃ B1, B1 = wr.heap.size := ⟨_, rfl⟩
          rw [← hB1] at hks0 hwB0
          have hwB : w.heap.size ≤ B1 := hwB0
          have hB1w : B1 ≤ wr.heap.size := by omega
          clear hS hB1 hwB0 hro
          go_wp2_with fail
          go_loopw [6, 25] (fun v i wq => ∃ m : Nat, m ≤ S.length ∧ i = .int .i64 m ∧ (∃ vl, RowsP wq B1 v vl ((S.take m).flatMap extS)) ∧ KeepS wq B1 av k S ∧ Below w.heap.size w wq ∧ B1 ≤ wq.heap.size) (fun _ i _ => S.length - (intOf i).toNat)
          case atStart => exact ⟨0, Nat.zero_le _, rfl, ⟨[], RowsP.nil _ _⟩, hks0, hb, hB1w⟩
          case round =>
            obtain ⟨m, hm, rfl, ⟨vq, hroq⟩, hks, hbq, hB1q⟩ := hrel
            obtain ⟨aq, cq, rfl⟩ := hroq.o.form
            have hcut := HCUT.out m hm
            by_cases hltm : m < S.length
            · have k2 : (m : Int) < (S.length : Int) := by omega
              obtain ⟨g, off, a3, c3, rfl, hgB, hall⟩ := hks m hltm
              have ⟨hc3, hr3⟩ := hall wr (Below.refl _ _)
              have hkr : KeepR wr B1 a3 (rowL S m) := fun w'' h2 => (hall w'' h2).2
              have hgl : g < wr.heap.size := by omega
              have ⟨hv1, hv2⟩ := stV_row (HSV.out m hltm)
              have HFN : Hid ((S.take (m+1)).flatMap extS = (S.take m).flatMap extS ++ extS (rowL S m)) := flat_take hltm
              obtain ⟨R, hR⟩ : ∃ R, R = rowL S m := ⟨_, rfl⟩
              rw [← hR] at hr3 hkr hv1 hv2 HFN
              have HRL : Hid (R.length = k) := hv1
              have HCLN : Hid (∀ w, Rd w a3 R → Calls Try.prog 26 #[.slice a3 k c3] w fun e w' => ∃ a' cap', e = .returned (.slice a' k cap') ∧ OwnI w' w.heap.size (.slice a' k cap') R ∧ Below w.heap.size w w') := fun w hr => by
                have h := sliceClone_any a3 R c3 w hr (by omega)
                rw [hv1] at h
                exact h
              have HLA : Hid (lastN R ≤ k) := by
                rw [Hid, lastN, hv1]
                by_cases hp : 0 < k
                · have := hv2 (k - 1) (by omega); omega
                · obtain rfl : R = [] := List.eq_nil_of_length_eq_zero (by omega)
                  simp [nth]
              have HLD : Hid (lastN R = (nth R (k - 1)).toNat) := by rw [Hid, lastN, hv1]
              obtain ⟨L, hL⟩ : ∃ L, L = lastN R := ⟨_, rfl⟩
              obtain ⟨E, hE⟩ : ∃ E, E = fun j : Nat => [R ++ [((L + j : Nat) : Int)]] := ⟨_, rfl⟩
              have HEE : Hid (∀ j : Nat, E j = [R ++ [((L + j : Nat) : Int)]]) := fun j => by rw [hE]
              rw [extS, hv1, ← hL, ← hE] at HFN
              rw [← hL] at HLA HLD
              have hLl := HLA.out
              obtain ⟨M, hM⟩ : ∃ M, k + 1 = L + M := ⟨k + 1 - L, by omega⟩
              rw [show k + 1 - L = M by omega] at HFN
              have hM1 : k + 1 ≤ L + M := by omega
              have hM2 : L + M ≤ k + 1 := by omega
              obtain ⟨FL, hFL⟩ : ∃ FL, FL = (S.take m).flatMap extS := ⟨_, rfl⟩
              rw [← hFL] at HFN hcut hroq ⊢
              have HLF : Hid (∀ j, j ≤ M → (FL ++ catTo E j).length ≤ 1048600) := fun j hj => by
                rw [Hid.out (p := (FL ++ catTo E j).length = FL.length + j) (by rw [Hid, List.length_append, catTo_ones (fun j => by rw [hE]; rfl) j])]
                omega
              have HROQ := Lib.hid hroq
              have hval : ∀ j, j < k → 0 ≤ nth R j := fun j hj => (hv2 j hj).1
              have HVAL := Lib.hid hval
              clear hL hE hM hFL hR hv1 hv2 hroq hall hval
              by_cases hp : 0 < k
              · have ⟨b0, off0, ea, hbl0, hc0⟩ := hr3.cell (k - 1) (by rw [HRL.out]; omega)
                have HVL : Hid (nth R (k - 1) = (L : Int)) := by
                  have := HVAL.out (k - 1) (by omega)
                  have := HLD.out
                  rw [Hid]; omega
                rw [HVL.out] at hc0
                have hcast : ((k : Int) - 1) = ((k - 1 : Nat) : Int) := by omega
                subst ea
                go_wp2_with fail
                go_loopw [6, 10] (fun v i wp => ∃ j : Nat, j ≤ M ∧ i = .int .i64 ((L + j : Nat) : Int) ∧ (∃ vl, RowsP wp B1 v vl (FL ++ catTo E j)) ∧ KeepR wp B1 (some ⟨b0, off0, none⟩) R ∧ KeepS wp B1 (some ⟨g, off, none⟩) k S ∧ Below w.heap.size w wp ∧ B1 ≤ wp.heap.size) (fun _ i _ => L + M - (intOf i).toNat)
                case atStart => exact ⟨0, Nat.zero_le _, rfl, ⟨vq, by rw [catTo, List.append_nil]; exact HROQ.out⟩, hkr, hks, hbq, hB1q⟩
                case round =>
                  obtain ⟨j, hj, rfl, ⟨vl3, hro3⟩, hkr3, hks3, hb3, hB3⟩ := hrel
                  have hlen3 := HLF.out j hj
                  obtain ⟨Q, hQ⟩ : ∃ Q, Q = FL ++ catTo E j := ⟨_, rfl⟩
                  have HQ := Lib.hid hQ
                  rw [← hQ] at hro3 hlen3
                  clear hQ
                  obtain ⟨av3, cv3, rfl⟩ := hro3.o.form
                  by_cases hlt3 : j < M
                  · have k3 : ((L + j : Nat) : Int) ≤ (k : Int) := by omega
                    have hrr := hkr3 wr (Below.refl _ _)
                    have HRO3 := Lib.hid hro3
                    have HKR3 := Lib.hid hkr3
                    have HKS3 := Lib.hid hks3
                    have HLS := Lib.hid hro3.blk
                    clear hro3 hkr3 hks3
                    go_wp2_with fail
                    refine (HCLN.out wr hrr).mono ?_
                    rintro e w2 ⟨a2, c2, rfl, hown2, hb2⟩
                    have hbs2 := hb2.size
                    go_wp2_with (at_builtin; refine wpList_append_own _ rfl _ _ 22 rfl wr.heap.size 3 i0 (.int .i64 0) 1 8 Try.underlying22 hi hz0 hz1 hz2 rfl (by decide) (.slice a2 k c2) k (R.map (Value.int .i64)) rfl (by have h := hown2.alloc (.cells #[.int .i64 ((L + j : Nat) : Int)] 3); unfold OwnI at h; rw [HRL.out] at h; exact h) ⟨w2.heap.size, 0, none⟩ 1 1 [.int .i64 ((L + j : Nat) : Int)] rfl rfl (cell_one_new _ _ _) (by intro u hu; simp at hu; subst hu; rfl) (by unfold maxLen; omega) (by omega) (by simp; omega) ?_)
                    intro v3 w3 hown3 hgrow _
                    have hg2 := grown_alloc_set hgrow
                    have hU := hown2.lt
                    have b3 : Below wr.heap.size wr w3 := hb2.trans (below_of_grown hg2 (fun c e => (hU c e).1) hbs2)
                    have o3 : OwnI w3 wr.heap.size v3 (R ++ [((L + j : Nat) : Int)]) := by
                      unfold OwnI
                      rw [List.length_append, List.map_append, HRL.out]
                      exact hown3
                    obtain ⟨a4, c4, rfl⟩ := o3.form
                    rw [show (R ++ [((L + j : Nat) : Int)]).length = k + 1 by have := HRL.out; simp; omega] at o3 ⊢
                    have hbs3 := b3.size
                    have hone := RowsP.one o3 hbs3
                    have b4 : Below wr.heap.size wr (w3.alloc (.cells #[.slice a4 (k + 1) c4] 22)) := b3.alloc hbs3 _
                    have hro4 := HRO3.out.below b4 (Nat.le_refl _)
                    have HN : Hid (catTo E (j+1) = catTo E j ++ [R ++ [((L + j : Nat) : Int)]]) := by rw [Hid, catTo, HEE.out j]
                    clear hown3 hgrow hU hg2
                    go_wp2_with (at_builtin; refine wpList_append_own_at _ rfl _ _ 32 rfl B1 22 j0 (.slice none 0 0) 1 24 Try.underlying32 hj0 hy0 hy1 hy2 rfl (by decide) (.slice av3 Q.length cv3) Q.length vl3 rfl hro4.o.own ⟨w3.heap.size, 0, none⟩ 1 1 [.slice a4 (k + 1) c4] rfl rfl (cell_one_new _ _ _) (by intro u hu; simp at hu; subst hu; rfl) (by unfold maxLen; omega) (by omega) (by simp; omega) ?_)
                    intro v5 w5 hown5 hgrow _ hat
                    have ⟨hs1, hs2⟩ := HLS.out
                    have b5 : Below B1 wr w5 := (b4.mono hB3).trans (below_of_grown hgrow (fun c e => (HRO3.out.o.lt c e).1) (by simp; omega))
                    have o5 := hro4.cat hone (by omega) hs1 hs2 hown5 hgrow (by rw [World.size_alloc]; exact hat)
                    clear hown5 hgrow hat
                    have hB5 : B1 ≤ w5.heap.size := by have := b5.size; omega
                    go_wp2_with fail
                    go_roundw
                    case rel => exact ⟨j + 1, by omega, by go_num, ⟨vl3 ++ [.slice a4 (k + 1) c4], by rw [HN.out, ← List.append_assoc, ← HQ.out]; exact o5⟩, HKR3.out.next b5, HKS3.out.next b5, hb3.trans (b5.mono hwB), hB5⟩
                    case measure => simp [intOf]; omega
                  · obtain rfl : j = M := by omega
                    have HE3 : Hid ((S.take (m+1)).flatMap extS = FL ++ catTo E j) := HFN.out
                    go_wp2_with fail
                    go_roundw
                    case rel => exact ⟨m + 1, by omega, by go_num, ⟨vl3, by rw [HE3.out, ← HQ.out]; exact hro3⟩, hks3, hb3, hB3⟩
                    case measure => simp [intOf]; omega
              · have HL0 : Hid (L = 0) := by
                  have := HLD.out
                  have h8 : R = [] := List.eq_nil_of_length_eq_zero (by have := HRL.out; omega)
                  rw [h8] at this
                  rw [Hid, this]; rfl
                go_wp2_with fail
                go_loopw [6, 10] (fun v i wp => ∃ j : Nat, j ≤ M ∧ i = .int .i64 ((L + j : Nat) : Int) ∧ (∃ vl, RowsP wp B1 v vl (FL ++ catTo E j)) ∧ KeepR wp B1 a3 R ∧ KeepS wp B1 (some ⟨g, off, none⟩) k S ∧ Below w.heap.size w wp ∧ B1 ≤ wp.heap.size) (fun _ i _ => L + M - (intOf i).toNat)
                case atStart => exact ⟨0, Nat.zero_le _, by rw [HL0.out]; rfl, ⟨vq, by rw [catTo, List.append_nil]; exact HROQ.out⟩, hkr, hks, hbq, hB1q⟩
                case round =>
                  obtain ⟨j, hj, rfl, ⟨vl3, hro3⟩, hkr3, hks3, hb3, hB3⟩ := hrel
                  have hlen3 := HLF.out j hj
                  obtain ⟨Q, hQ⟩ : ∃ Q, Q = FL ++ catTo E j := ⟨_, rfl⟩
                  have HQ := Lib.hid hQ
                  rw [← hQ] at hro3 hlen3
                  clear hQ
                  obtain ⟨av3, cv3, rfl⟩ := hro3.o.form
                  by_cases hlt3 : j < M
                  · have k3 : ((L + j : Nat) : Int) ≤ (k : Int) := by omega
                    have hrr := hkr3 wr (Below.refl _ _)
                    have HRO3 := Lib.hid hro3
                    have HKR3 := Lib.hid hkr3
                    have HKS3 := Lib.hid hks3
                    have HLS := Lib.hid hro3.blk
                    clear hro3 hkr3 hks3
                    go_wp2_with fail
                    refine (HCLN.out wr hrr).mono ?_
                    rintro e w2 ⟨a2, c2, rfl, hown2, hb2⟩
                    have hbs2 := hb2.size
                    go_wp2_with (at_builtin; refine wpList_append_own _ rfl _ _ 22 rfl wr.heap.size 3 i0 (.int .i64 0) 1 8 Try.underlying22 hi hz0 hz1 hz2 rfl (by decide) (.slice a2 k c2) k (R.map (Value.int .i64)) rfl (by have h := hown2.alloc (.cells #[.int .i64 ((L + j : Nat) : Int)] 3); unfold OwnI at h; rw [HRL.out] at h; exact h) ⟨w2.heap.size, 0, none⟩ 1 1 [.int .i64 ((L + j : Nat) : Int)] rfl rfl (cell_one_new _ _ _) (by intro u hu; simp at hu; subst hu; rfl) (by unfold maxLen; omega) (by omega) (by simp; omega) ?_)
                    intro v3 w3 hown3 hgrow _
                    have hg2 := grown_alloc_set hgrow
                    have hU := hown2.lt
                    have b3 : Below wr.heap.size wr w3 := hb2.trans (below_of_grown hg2 (fun c e => (hU c e).1) hbs2)
                    have o3 : OwnI w3 wr.heap.size v3 (R ++ [((L + j : Nat) : Int)]) := by
                      unfold OwnI
                      rw [List.length_append, List.map_append, HRL.out]
                      exact hown3
                    obtain ⟨a4, c4, rfl⟩ := o3.form
                    rw [show (R ++ [((L + j : Nat) : Int)]).length = k + 1 by have := HRL.out; simp; omega] at o3 ⊢
                    have hbs3 := b3.size
                    have hone := RowsP.one o3 hbs3
                    have b4 : Below wr.heap.size wr (w3.alloc (.cells #[.slice a4 (k + 1) c4] 22)) := b3.alloc hbs3 _
                    have hro4 := HRO3.out.below b4 (Nat.le_refl _)
                    have HN : Hid (catTo E (j+1) = catTo E j ++ [R ++ [((L + j : Nat) : Int)]]) := by rw [Hid, catTo, HEE.out j]
                    clear hown3 hgrow hU hg2
                    go_wp2_with (at_builtin; refine wpList_append_own_at _ rfl _ _ 32 rfl B1 22 j0 (.slice none 0 0) 1 24 Try.underlying32 hj0 hy0 hy1 hy2 rfl (by decide) (.slice av3 Q.length cv3) Q.length vl3 rfl hro4.o.own ⟨w3.heap.size, 0, none⟩ 1 1 [.slice a4 (k + 1) c4] rfl rfl (cell_one_new _ _ _) (by intro u hu; simp at hu; subst hu; rfl) (by unfold maxLen; omega) (by omega) (by simp; omega) ?_)
                    intro v5 w5 hown5 hgrow _ hat
                    have ⟨hs1, hs2⟩ := HLS.out
                    have b5 : Below B1 wr w5 := (b4.mono hB3).trans (below_of_grown hgrow (fun c e => (HRO3.out.o.lt c e).1) (by simp; omega))
                    have o5 := hro4.cat hone (by omega) hs1 hs2 hown5 hgrow (by rw [World.size_alloc]; exact hat)
                    clear hown5 hgrow hat
                    have hB5 : B1 ≤ w5.heap.size := by have := b5.size; omega
                    go_wp2_with fail
                    go_roundw
                    case rel => exact ⟨j + 1, by omega, by go_num, ⟨vl3 ++ [.slice a4 (k + 1) c4], by rw [HN.out, ← List.append_assoc, ← HQ.out]; exact o5⟩, HKR3.out.next b5, HKS3.out.next b5, hb3.trans (b5.mono hwB), hB5⟩
                    case measure => simp [intOf]; omega
                  · obtain rfl : j = M := by omega
                    have HE3 : Hid ((S.take (m+1)).flatMap extS = FL ++ catTo E j) := HFN.out
                    go_wp2_with fail
                    go_roundw
                    case rel => exact ⟨m + 1, by omega, by go_num, ⟨vl3, by rw [HE3.out, ← HQ.out]; exact hro3⟩, hks3, hb3, hB3⟩
                    case measure => simp [intOf]; omega
            · obtain rfl : m = S.length := by omega
              have HEQ : Hid (stS (k+1) [] = (S.take S.length).flatMap extS) := by rw [Hid, HNX.out, List.take_length]
              go_wp2_with fail
              go_roundw
              case rel => exact ⟨k + 1, by omega, by go_num, ⟨vq, by rw [HEQ.out]; exact hroq.mono hwB⟩, hbq⟩
              case measure => simp [intOf]; omega
        · obtain rfl : k = N := by omega
          go_wp2_with fail
          refine bodyPost_ret (v := .tuple #[.slice av (stS k []).length cv, .bool true]) (by simp [results, Try.results11, go_sem]) rfl ?_
          first | exact ⟨av, cv, vl, by rw [H1.out, H2.out], by rw [H1.out]; exact hro, hb⟩ | exact ⟨av, cv, by rw [H1.out, H2.out], ⟨vl, by rw [H1.out]; exact hro⟩, hb⟩

def eqL (xs ys : List Int) : Bool := decide (xs = ys)
theorem eqIntS_any (a b : Option Addr) (xs ys : List Int) (ca cb : Nat) (w : World) (hx : Rd w a xs) (hy : Rd w b ys) :
    Calls Try.prog 23 #[.slice a xs.length ca, .slice b ys.length cb] w fun e w' => e = .returned (.bool (eqL xs ys)) ∧ Below w.heap.size w w' := by
  have hlx := hx.len
  have hly := hy.len
  by_cases hl : xs.length = ys.length
  · have hl' : ((xs.length : Int) != (ys.length : Int)) = false := by simp [hl]
    go_enter Try.func23, Try.ntmps23
    have HL := Lib.hid hl
    clear hl
    go_wp2_with fail
    go_loopw [5] (fun i wr => ∃ k : Nat, k ≤ xs.length ∧ i = .int .i64 k ∧ xs.take k = ys.take k ∧ Below w.heap.size w wr) (fun i _ => xs.length - (intOf i).toNat)
    case atStart => exact ⟨0, Nat.zero_le _, rfl, rfl, Below.refl _ _⟩
    case round =>
      obtain ⟨k, hk, rfl, htk, hb⟩ := hrel
      have HT := Lib.hid htk
      clear htk
      by_cases hlt : k < xs.length
      · have hlt' : k < ys.length := by rw [← HL.out]; exact hlt
        obtain ⟨b1, o1, rfl, hb1, hc1⟩ := (hx.below hb).cell k hlt
        obtain ⟨b2, o2, rfl, hb2, hc2⟩ := (hy.below hb).cell k hlt'
        by_cases he : nth xs k = nth ys k
        · have he' : (nth xs k != nth ys k) = false := by simp [he]
          have HE := Lib.hid he
          clear he
          go_wp2_with fail
          go_quiet (fail)
          go_wp2_with fail
          go_roundw
          case rel =>
            refine ⟨k + 1, by omega, by go_num, ?_, by exact hb.trans (Joins.below_draws _ _ _)⟩
            rw [List.take_succ_eq_append_getElem hlt, List.take_succ_eq_append_getElem hlt', HT.out, ← nth_get, ← nth_get, HE.out]
          case measure => simp [intOf]; omega
        · have he' : (nth xs k != nth ys k) = true := by simp [he]
          have hne : eqL xs ys = false := by
            simp only [eqL, decide_eq_false_iff_not]
            intro e
            subst e
            exact he rfl
          have HN := Lib.hid hne
          clear he hne
          go_wp2_with fail
          go_quiet (fail)
          go_wp2_with fail
          go_ret
          exact ⟨ret_bool HN.out.symm, hb.trans (Joins.below_draws _ _ _)⟩
      · go_wp2_with fail
        go_ret
        refine ⟨ret_bool ?_, hb⟩
        have h1 := HT.out
        rw [List.take_of_length_le (by omega), List.take_of_length_le (by rw [← HL.out]; omega)] at h1
        simp [eqL, h1]
  · have hl' : ((xs.length : Int) != (ys.length : Int)) = true := by simp; omega
    have hne : eqL xs ys = false := by
      simp only [eqL, decide_eq_false_iff_not]
      intro e
      exact hl (by rw [e])
    have HN := Lib.hid hne
    clear hl hne
    go_enter Try.func23, Try.ntmps23
    go_wp2_with fail
    go_ret
    exact ⟨ret_bool HN.out.symm, Below.refl _ _⟩
theorem eqL_self (xs : List Int) : eqL xs xs = true := by simp [eqL]

theorem eqIntSS_same (a b : Option Addr) (xss : List (List Int)) (ca cb : Nat) (w : World) (hx : RdS w a xss) (hy : RdS w b xss) :
    Calls Try.prog 12 #[.slice a xss.length ca, .slice b xss.length cb] w fun e w' => e = .returned (.bool true) ∧ Below w.heap.size w w' := by
  have hlen := hx.len
  go_enter Try.func12, Try.ntmps12
  go_wp2_with fail
  go_loopw [5] (fun i wr => ∃ k : Nat, k ≤ xss.length ∧ i = .int .i64 k ∧ Below w.heap.size w wr) (fun i _ => xss.length - (intOf i).toNat)
  case atStart => exact ⟨0, Nat.zero_le _, rfl, Below.refl _ _⟩
  case round =>
    obtain ⟨k, hk, rfl, hb⟩ := hrel
    by_cases hlt : k < xss.length
    · obtain ⟨b1, off1, a1, cap1, rfl, hbl1, hc1, hr1⟩ := (hx.below hb).row k hlt
      obtain ⟨b2, off2, a2, cap2, rfl, hbl2, hc2, hr2⟩ := (hy.below hb).row k hlt
      have k1 : (k : Int) < (xss.length : Int) := by omega
      have HE : Hid (eqL (rowL xss k) (rowL xss k) = true) := eqL_self _
      go_wp2_with fail
      go_region_held3 (fun w' => w'.cell? ⟨b1, off1 + k, none⟩ = some (.slice a1 (rowL xss k).length cap1) ∧ w'.cell? ⟨b2, off2 + k, none⟩ = some (.slice a2 (rowL xss k).length cap2))
        (first | exact ⟨(ht3.cell (p := ⟨b1, off1 + k, none⟩) hbl1).trans hc1, (ht3.cell (p := ⟨b2, off2 + k, none⟩) hbl2).trans hc2⟩ | go_keep)
        (first | (go_at_call 23; refine (eqIntS_any _ _ _ _ _ _ _ (hr1.below (Joins.below_draws _ _ _)) (hr2.below (Joins.below_draws _ _ _))).mono ?_; rw [HE.out]; rintro e w3 ⟨rfl, hb3⟩; have ht3 : Below wr.heap.size wr w3 := (Joins.below_draws _ _ _).trans hb3))
      have bw3 := hb.trans (ht3.mono hb.size)
      clear hb3 ht3 hc1 hc2
      go_wp2_with fail
      go_roundw
      case rel => exact ⟨k + 1, by omega, by go_num, bw3⟩
      case measure => simp [intOf]; omega
    · obtain rfl : k = xss.length := by omega
      go_wp2_with fail
      go_ret
      exact ⟨rfl, hb⟩

theorem markIntS_any (a : Option Addr) (xs : List Int) (cap : Nat) (k : Int) (B : Nat) (w : World) (h0 : 0 ≤ k) (h1 : k ≤ 1099511627776) (hn : xs.length ≤ 1048576) (ho : OwnI w B (.slice a xs.length cap) xs) :
    Calls Try.prog 27 #[.slice a xs.length cap, .int .i64 k] w fun e w' => e = .returned (.int .i64 (k + xs.length)) ∧ OwnI w' B (.slice a xs.length cap) (marks k xs.length) ∧ w.grownBy w' (Value.slice a xs.length cap).ownBlock := by
  go_enter Try.func27, Try.ntmps27
  go_wp2_with fail
  go_loopw [1, 5] (fun k' i wr => ∃ j : Nat, j ≤ xs.length ∧ i = .int .i64 j ∧ k' = .int .i64 (k + j) ∧ wr.ownsRow B 3 1 (.slice a xs.length cap) xs.length ((marks k j ++ xs.drop j).map (Value.int .i64)) ∧ w.grownBy wr (Value.slice a xs.length cap).ownBlock) (fun _ i _ => xs.length - (intOf i).toNat)
  case atStart => exact ⟨0, Nat.zero_le _, rfl, by simp, by (have e : marks k 0 ++ xs.drop 0 = xs := by simp [marks]); rw [e]; exact ho, World.grownBy.refl _ _⟩
  case round =>
    obtain ⟨j, hj, rfl, rfl, hown, hg⟩ := hrel
    by_cases hlt : j < xs.length
    · obtain ⟨g, rfl⟩ : ∃ g, a = some ⟨g, 0, none⟩ := by
        rcases hown.2 with ⟨e, h⟩ | ⟨g, c, cur, e, _⟩
        · omega
        · simp only [Value.slice.injEq] at e
          exact ⟨g, e.1⟩
      have hst := World.ownsRow.stored hown j (.int .i64 (k + j))
      rw [mark_step k xs j hlt] at hst
      have hcc := World.ownsRow.cellAt hown j (by omega)
      have hfr := World.ownsRow.frozenAt hown j
      have hcc' : ∃ u, wr.cell? ⟨g, j, none⟩ = some u := by
        rw [hcc]
        exact ⟨_, List.getElem?_eq_getElem (by simp [marks_len]; omega)⟩
      obtain ⟨u, hu⟩ := hcc'
      have Hst := Lib.hid hst
      have Hg := Lib.hid (grown_trans hg hst.2)
      clear hst hcc hown hg
      go_wp2
      go_roundw
      case rel => exact ⟨j + 1, by omega, by go_num, by go_num, Hst.out.1, Hg.out⟩
      case measure => simp [intOf]; omega
    · obtain rfl : j = xs.length := by omega
      go_wp2
      go_ret
      refine ⟨rfl, ?_, hg⟩
      have e : marks k xs.length ++ xs.drop xs.length = marks k xs.length := by simp
      rw [e] at hown
      show World.ownsRow _ _ _ _ _ _ _
      rw [marks_len]
      exact hown

set_option maxRecDepth 100000 in
theorem markSS_any (a : Option Addr) (n cap : Nat) (vl : List Value) (xss : List (List Int)) (k : Int) (B : Nat) (w : World) (hnl : n = xss.length) (h0 : 0 ≤ k) (h1 : k ≤ 1048576) (hn : xss.length + totS xss xss.length ≤ 1048576) (ho : RowsP w B (.slice a n cap) vl xss) (hBw : B ≤ w.heap.size) :
    Calls Try.prog 13 #[.slice a n cap, .int .i64 k] w fun e w' => e = .returned (.int .i64 (k + ((totS xss xss.length : Nat) : Int))) ∧ RowsP w' B (.slice a n cap) vl (mkS xss k) ∧ Below B w w' := by
  subst hnl
  have HO := Lib.hid ho
  have hmax : xss.length ≤ 1048576 := by omega
  go_enter Try.func13, Try.ntmps13
  clear ho
  go_wp2_with fail
  go_loopw [1, 5] (fun k' i wr => ∃ j : Nat, j ≤ xss.length ∧ i = .int .i64 j ∧ k' = .int .i64 (k + ((totS xss j : Nat) : Int)) ∧ Below B w wr ∧ wr.ownsRow B 22 1 (.slice a xss.length cap) xss.length vl ∧ Hid (∀ i, i < xss.length → OwnI wr B (valAt vl i) (if i < j then rowL (mkS xss k) i else rowL xss i))) (fun _ i _ => xss.length - (intOf i).toNat)
  case atStart => exact ⟨0, Nat.zero_le _, rfl, by simp [totS], Below.refl _ _, HO.out.o.own, fun i hi => by rw [if_neg (by omega)]; exact HO.out.o.row i hi⟩
  case round =>
    obtain ⟨j, hj, rfl, rfl, hb, hown, HA⟩ := hrel
    by_cases hlt : j < xss.length
    · have hoj := HA.out j hlt
      rw [if_neg (by omega)] at hoj
      have hrt := row_tot (xss := xss) hlt
      have hmn := totS_mono (xss := xss) (j := j) (k := xss.length) (by omega)
      have HN : Hid (totS xss (j+1) = totS xss j + (rowL xss j).length) := rfl
      have k1 : (j : Int) < (xss.length : Int) := by omega
      have hvl := HO.out.o.vlen
      have hcj : ∃ g, a = some ⟨g, 0, none⟩ ∧ wr.cell? ⟨g, j, none⟩ = some (valAt vl j) ∧ g < wr.heap.size := by
        rcases hown.2 with ⟨e, h00⟩ | ⟨g, cap', cur, e, hbg, hg, _⟩
        · omega
        · simp only [Value.slice.injEq] at e
          obtain ⟨rfl, _, rfl⟩ := e
          exact ⟨g, rfl, by rw [World.ownsRow.cellAt hown j (by omega), valAt_get (by omega)], (Array.getElem?_eq_some_iff.1 hg).1⟩
      obtain ⟨g, rfl, hc, hgl⟩ := hcj
      have HAP := Lib.hid (HO.out.o.apart j hlt)
      have HPR := Lib.hid (fun i (hi : i < xss.length) (hne : i ≠ j) c (hc : (valAt vl j).ownBlock = some c) (hc2 : (valAt vl i).ownBlock = some c) => show False from by
        rcases Nat.lt_or_gt_of_ne hne with h | h
        · exact HO.out.pair i j h hlt c hc2 hc
        · exact HO.out.pair j i h hi c hc hc2)
      obtain ⟨vj, hvj⟩ : ∃ vj, vj = valAt vl j := ⟨_, rfl⟩
      have HVJ := Lib.hid hvj
      rw [← hvj] at hc hoj HAP HPR
      clear hvj hvl
      obtain ⟨aj, capj, rfl⟩ := hoj.form
      have hro : (rowL xss j).length ≤ 1048576 := by omega
      go_wp2_with fail
      refine (markIntS_any _ _ _ _ _ _ (by omega) (by omega) hro hoj).mono ?_
      rintro e w2 ⟨rfl, ho2, hg2⟩
      have hU := hoj.lt
      have b2 := hb.trans (below_of_grown hg2 (fun c e => (hU c e).1) (by have := hb.size; omega))
      have own2 : w2.ownsRow B 22 1 (.slice (some ⟨g, 0, none⟩) xss.length cap) xss.length vl := World.ownsRow.kept hown hg2 (own_ne (fun c e e2 => HAP.out c e2 e))
      have HA2 : Hid (∀ i, i < xss.length → OwnI w2 B (valAt vl i) (if i < j + 1 then rowL (mkS xss k) i else rowL xss i)) := by
        intro i hi
        by_cases e : i = j
        · subst e
          rw [if_pos (by omega), mkS_row hi, ← HVJ.out]
          exact ho2
        · have h3 := HA.out i hi
          have h4 : OwnI w2 B (valAt vl i) (if i < j then rowL (mkS xss k) i else rowL xss i) := h3.kept hg2 (own_ne (fun c e1 e2 => HPR.out i hi e c e2 e1))
          by_cases e5 : i < j
          · rw [if_pos e5] at h4
            rw [if_pos (by omega)]; exact h4
          · rw [if_neg e5] at h4
            rw [if_neg (by omega)]; exact h4
      clear ho2 hg2 hown
      go_wp2_with fail
      go_roundw
      case rel => exact ⟨j + 1, by omega, by go_num, val_int (by rw [HN.out]; omega), b2, own2, HA2⟩
      case measure => simp [intOf]; omega
    · obtain rfl : j = xss.length := by omega
      go_wp2_with fail
      go_ret
      refine ⟨rfl, ⟨⟨by rw [mkS_len]; exact hown, fun i hi => ?_, fun i hi => ?_⟩, fun i j h1 h2 => ?_⟩, hb⟩
      · rw [mkS_len] at hi
        have := HA.out i hi
        rw [if_pos hi] at this; exact this
      · rw [mkS_len] at hi
        exact HO.out.o.apart i hi
      · rw [mkS_len] at h2
        exact HO.out.pair i j h1 h2

theorem heldIntS_any (a : Option Addr) (n cap : Nat) (k : Int) (w : World) (h0 : 0 ≤ k) (h1 : k ≤ 1099511627776) (hn : n ≤ 1048576) (hx : Rd w a (marks k n)) :
    Calls Try.prog 28 #[.slice a n cap, .int .i64 k] w fun e w' => e = .returned (.int .i64 (k + n)) ∧ Below w.heap.size w w' := by
  go_enter Try.func28, Try.ntmps28
  go_wp2_with fail
  go_loop [1, 5] (fun k' i => ∃ j : Nat, j ≤ n ∧ i = .int .i64 j ∧ k' = .int .i64 (k + j)) (fun _ i => n - (intOf i).toNat)
  case atStart => exact ⟨0, Nat.zero_le _, rfl, by simp⟩
  case round =>
    obtain ⟨j, hj, rfl, rfl⟩ := hrel
    by_cases hlt : j < n
    · obtain ⟨b, off, rfl, hbl, hc⟩ := hx.cell j (by rw [marks_len]; exact hlt)
      rw [marks_nth hlt] at hc
      go_wp2_with fail
      go_round
      case rel => exact ⟨j + 1, by omega, by go_num, by go_num⟩
      case measure => simp [intOf]; omega
    · obtain rfl : j = n := by omega
      go_wp2_with fail
      go_ret
      exact ⟨rfl, (by repeat (first | exact Below.refl _ _ | assumption | refine Below.alloc ?_ (by first | exact Nat.le_refl _ | (simp only [World.size_alloc, World.size_setCell, World.size_drew]; omega) | omega) _ | refine Below.setCell ?_ (by first | exact Nat.le_refl _ | (simp only [World.size_alloc, World.size_setCell, World.size_drew]; omega) | omega) _ | refine Below.drew ?_))⟩

set_option maxRecDepth 100000 in
theorem heldSS_any (a : Option Addr) (n cap : Nat) (xss : List (List Int)) (k : Int) (w : World) (hnl : n = xss.length) (h0 : 0 ≤ k) (h1 : k ≤ 1048576) (hn : xss.length + totS xss xss.length ≤ 1048576) (hx : RdS w a (mkS xss k)) :
    Calls Try.prog 14 #[.slice a n cap, .int .i64 k] w fun e w' => e = .returned (.int .i64 (k + ((totS xss xss.length : Nat) : Int))) ∧ Below w.heap.size w w' := by
  subst hnl
  have hmax : xss.length ≤ 1048576 := by omega
  go_enter Try.func14, Try.ntmps14
  go_wp2_with fail
  go_loopw [1, 5] (fun k' i wr => ∃ j : Nat, j ≤ xss.length ∧ i = .int .i64 j ∧ k' = .int .i64 (k + ((totS xss j : Nat) : Int)) ∧ Below w.heap.size w wr) (fun _ i _ => xss.length - (intOf i).toNat)
  case atStart => exact ⟨0, Nat.zero_le _, rfl, by simp [totS], Below.refl _ _⟩
  case round =>
    obtain ⟨j, hj, rfl, rfl, hb⟩ := hrel
    by_cases hlt : j < xss.length
    · have hrt := row_tot (xss := xss) hlt
      have hmn := totS_mono (xss := xss) (j := j) (k := xss.length) (by omega)
      have HN : Hid (totS xss (j+1) = totS xss j + (rowL xss j).length) := rfl
      have k1 : (j : Int) < (xss.length : Int) := by omega
      obtain ⟨b1, off1, a1, cap1, rfl, hbl1, hc1, hr1⟩ := (hx.below hb).row j (by rw [mkS_len]; exact hlt)
      rw [mkS_row hlt] at hc1 hr1
      have hml : (marks (k + ((totS xss j : Nat) : Int)) (rowL xss j).length).length = (rowL xss j).length := by simp [marks]
      rw [hml] at hc1
      clear hml
      have hro : (rowL xss j).length ≤ 1048576 := by omega
      have hcall := heldIntS_any a1 (rowL xss j).length cap1 (k + ((totS xss j : Nat) : Int)) wr (by omega) (by omega) hro hr1
      have HCL := Lib.hid hcall
      have hge : ¬ (k + ((totS xss j : Nat) : Int) + (((rowL xss j).length : Nat) : Int) < 0) := by omega
      have hbs := hb.size
      clear hcall hr1
      go_wp2_with fail
      refine HCL.out.mono ?_
      rintro e w2 ⟨rfl, hb2⟩
      go_wp2_with fail
      go_roundw
      case rel => exact ⟨j + 1, by omega, by go_num, val_int (by rw [HN.out]; omega), hb.trans (hb2.mono hbs)⟩
      case measure => simp [intOf]; omega
    · obtain rfl : j = xss.length := by omega
      go_wp2_with fail
      go_ret
      exact ⟨rfl, hb⟩

theorem walk (i0 : Int) (w : World) (hi0 : -9223372036854775808 ≤ i0 ∧ i0 ≤ 9223372036854775807) :
    Calls Try.prog 4 #[.int .i64 i0] w fun e w' => e = .returned (.bool true) ∧ Below w.heap.size w w' := by
  have hT := ssL_len i0
  go_enter Try.func4, Try.ntmps4
  go_wp2_with fail
  refine (sStairs_any _ _ hi0).mono ?_
  rintro e w1 ⟨pR, qR, vR, rfl, hR1, hb⟩
  have bw1 : Below w.heap.size w w1 := Below.trans (by repeat (first | exact Below.refl _ _ | assumption | refine Below.alloc ?_ (by first | exact Nat.le_refl _ | (simp only [World.size_alloc, World.size_setCell, World.size_drew]; omega) | omega) _ | refine Below.setCell ?_ (by first | exact Nat.le_refl _ | (simp only [World.size_alloc, World.size_setCell, World.size_drew]; omega) | omega) _ | refine Below.drew ?_)) (hb.mono (by first | (simp only [World.size_alloc, World.size_setCell, World.size_drew]; omega) | omega))
  clear hb
  go_wp2_with fail
  refine (iStairs_any _ _ hi0).mono ?_
  rintro e w2 ⟨pG, qG, vG, rfl, hG2, hb⟩
  have hR2 := hR1.rd.below hb
  have bw2 : Below w.heap.size w w2 := bw1.trans (hb.mono bw1.size)
  have z12 := hb.size
  have hgr := hb
  clear hb
  go_wp2_with fail
  refine (eqIntSS_same _ _ (ssL i0) _ _ _ hG2.o.rd hR2).mono ?_
  rintro e w3 ⟨rfl, hb⟩
  have hG3 := hG2.below hb (Nat.le_refl _)
  have hg3 : Below w1.heap.size w1 w3 := hgr.trans (hb.mono z12)
  have bw3 : Below w.heap.size w w3 := bw2.trans (hb.mono bw2.size)
  have z3 := hg3.size
  clear hb hG2 hR2 hgr
  go_wp2_with fail
  refine (markSS_any _ _ _ _ (ssL i0) 1 w1.heap.size _ rfl (by omega) (by omega) hT hG3 z3).mono ?_
  rintro e w4 ⟨rfl, hG4, hb⟩
  have hg4 : Below w1.heap.size w1 w4 := hg3.trans hb
  have hR4 := hR1.rd.below hg4
  have bw4 : Below w.heap.size w w4 := bw3.trans (hb.mono bw1.size)
  have hM4 := hG4.o.rd
  clear hb hG3 hG4 hg3 hg4
  go_wp2_with fail
  refine (heldSS_any _ _ _ (ssL i0) 1 _ rfl (by omega) (by omega) hT hM4).mono ?_
  rintro e w5 ⟨rfl, hb⟩
  have hM5 := hM4.below hb
  have hR5 := hR4.below hb
  have bw5 : Below w.heap.size w w5 := bw4.trans (hb.mono bw4.size)
  clear hb hM4 hR4
  go_wp2_with fail
  refine (iStairs_any _ _ hi0).mono ?_
  rintro e w6 ⟨pH, qH, vH, rfl, hH6, hb⟩
  have hM6 := hM5.below hb
  have hR6 := hR5.below hb
  have bw6 : Below w.heap.size w w6 := bw5.trans (hb.mono bw5.size)
  clear hb hM5 hR5
  go_wp2_with fail
  refine (eqIntSS_same _ _ (ssL i0) _ _ _ hH6.o.rd hR6).mono ?_
  rintro e w7 ⟨rfl, hb⟩
  have hM7 := hM6.below hb
  have bw7 : Below w.heap.size w w7 := bw6.trans (hb.mono bw6.size)
  clear hb hM6 hR6 hH6
  go_wp2_with fail
  refine (heldSS_any _ _ _ (ssL i0) 1 _ rfl (by omega) (by omega) hT hM7).mono ?_
  rintro e w8 ⟨rfl, hb⟩
  have bw8 : Below w.heap.size w w8 := bw7.trans (hb.mono bw7.size)
  clear hb hM7
  go_wp2_with fail
  go_ret
  exact ⟨rfl, bw8⟩

theorem rd_of_trod {H : Type} {enc : TypeId × Value → H} {W : World} {fuel : Nat} {c : Value} {y : DataW H × List MemPlace}
    (h : DataW.trod enc Try.prog W 0 (fun _ => true) true fuel 22 [c] = some y) : ∃ (a : Option Addr) (xs : List Int) (cap : Nat), c = .slice a xs.length cap ∧ Rd W a xs ∧ ∀ k, k < xs.length → (Lit.int .i64 (nth xs k)).wf = true := by
  rcases Go.ChangeShapes.open_ints Try.underlying22 Try.underlying3 (by kernel_rfl) h with ⟨hcs, _⟩ | ⟨x, len, cap, zs, hcs, _, hl, hm, hz, _, hcell, hwf⟩
  · simp only [List.cons.injEq, and_true] at hcs
    exact ⟨none, [], 0, hcs, ⟨by simp, fun k hk => by simp at hk⟩, fun k hk => by simp at hk⟩
  · simp only [List.cons.injEq, and_true] at hcs
    simp only [if_true] at hz
    have hlen : (zs.take len).length = len := by rw [List.length_take]; omega
    have hn : ∀ k, k < len → nth (zs.take len) k = zs.getD k 0 := by
      intro k hk
      simp only [nth, List.getD_eq_getElem?_getD, List.getElem?_take, hk, if_true]
    refine ⟨some x, zs.take len, cap, by rw [hlen]; exact hcs, ⟨by rw [hlen]; unfold maxLen at hm; omega, fun k hk => ?_⟩, fun k hk => ?_⟩
    · rw [hlen] at hk
      obtain ⟨b, off, sp⟩ := x
      have h0 := hcell 0 (by omega)
      have hsp : sp = none := by simpa [Addr.add] using World.cell?_spot h0
      subst hsp
      have hk' := hcell k (by omega)
      rw [Addr.add_lit] at hk'
      exact ⟨b, off, rfl, World.block_lt_of_cell? _ _ h0, by rw [hk', hn k hk]⟩
    · rw [hlen] at hk
      rw [hn k hk]
      have hk2 : k < zs.length := by omega
      exact hwf _ (by rw [List.getD_eq_getElem?_getD, List.getElem?_eq_getElem hk2]; exact List.getElem_mem hk2)

theorem own : ownKnob Try.prog.godebug = none := by kernel_rfl
theorem laidOut : laidOutB Try.prog = true := by kernel_rfl
theorem wf_bd {n : Int} (h : (Lit.int .i64 n).wf = true) : -9223372036854775808 ≤ n ∧ n ≤ 9223372036854775807 := by
  simp [Lit.wf, IntKind.min, IntKind.max, IntKind.bits, IntKind.signed] at h
  omega

open Go.ChangeShapes Go.WideShapes Go.ChangeAt Go.RowKit in
set_option maxRecDepth 100000 in
theorem lifted (os : Os) (started : os.Started) (H : Type) (enc : TypeId × Value → H) :
    ReturnsInHanded {} Try.checked os 4 .any (Rows.fnExactStairsOfSpec.pre6 enc Try.prog Try.f4 Rows.fnExactStairsOfRow.domain false) (Rows.fnExactStairsOfSpec.post enc Try.prog Try.f4 false true false false) := by
  refine returnsInHanded_of_change (C := Try.checked) own started (by kernel_rfl) Try.func4
    (ChangeSpec.witness6 (enc := enc) (C := Try.checked) false ⟨#[], #[.int .i64 0], []⟩ 8 (by kernel_rfl) (by kernel_rfl) (by kernel_rfl) (by kernel_rfl)) ?_
  intro W base args ds gs before hval0 hW hcnd _
  have hval : ∀ (j : Nat) t v, Try.f4.params[j]? = some t → args[j]? = some v → Value.okWide Try.prog W .any base t v := hval0
  have hW' := hW
  obtain ⟨p, q, hA0, hV, rfl, hfz, hnd⟩ := hW
  have hA : DataW.TrodAll enc Try.prog W 0 (fun _ => true) true Try.f4.params.toList args.toList ds p := hA0
  rw [Try.params4] at hA hval
  obtain ⟨v0, vs0, d0, ds0, p0, q0, hargs, rfl, rfl, h0, r0⟩ := trodAll_cons hA
  obtain ⟨rfl, rfl, rfl⟩ := trodAll_nil r0
  obtain rfl : args = #[v0] := by cases args; simp_all
  obtain ⟨rfl, rfl⟩ := trodVars_none hV
  have lt0 : ∀ x ∈ p0, x.block < W.heap.size := by obtain ⟨m, hm⟩ := h0; exact DataW.trod_lt m _ _ _ hm
  obtain ⟨i0, rfl, hd0, hp0, wf0⟩ := open_int Try.underlying3 (hval 0 3 v0 rfl rfl) h0
  clear hA0 hval0
  refine (walk i0 W (wf_bd wf0)).mono fun e W' ⟨he, bel⟩ => ?_
  subst he
  exact ⟨_, rfl, _, _, _, [], _, [], hW', trodAll_mk1 (shut_bool Try.underlying4 _), (trodAll_cons_mk (Below.trod laidOut (by kernel_rfl) (of_decide_eq_true (by kernel_rfl)) h0 bel lt0) trodAll_mk0), rfl, bel.frame _, fun h => by cases h⟩
theorem proved : Rows.FnExactStairsOfSaid :=
  OpenClaim.holds_of_wide 4 Try.f4 rfl rfl rfl rfl rfl rfl rfl ⟨rfl, rfl, rfl, rfl, rfl⟩ rfl rfl rfl rfl rfl (by kernel_rfl) Try.func4 (by kernel_rfl)
    (of_decide_eq_true (by kernel_rfl)) (by unfold Func.isWrapper; first | (rw [if_pos (by decide +kernel)]; kernel_rfl) | (rw [if_neg (by decide +kernel)]; exact ⟨rfl, rfl⟩))
    (fun os started H enc _ => lifted os started H enc)

end Go.Proofs.Ytbbbfbgdabiamaa.stairsOf
