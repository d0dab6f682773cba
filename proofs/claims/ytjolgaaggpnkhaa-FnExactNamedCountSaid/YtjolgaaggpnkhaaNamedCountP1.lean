/- A part of the proof of YtjolgaaggpnkhaaNamedCount: contracts of functions. -/
import Derived.Test.YtjolgaaggpnkhaaRows
import Derived.WalkKit
import Derived.WalkSpells
import Derived.WalkLawsBesides
import Derived.Deep.QuietTactic
import Derived.BigQuiet
import Derived.ProofKit
import Derived.OpenShut
import Derived.ShutString
import Derived.ChangeOld
import Derived.Below
import Derived.Lib.SmallJoins
import Derived.Lib.Hide
import Derived.Deep.RegionHeld3
import Derived.Maps.AppendAt
import Derived.Deep.AppendLies
import Derived.Deep.RegionLaw
import Derived.Deep.Matrix
namespace Go.Proofs.Ytjolgaaggpnkhaa.namedCount
open Go Go.RowKit
set_option linter.unusedVariables false
set_option linter.unusedSimpArgs false
set_option maxHeartbeats 400000


/-- a number of a list; a plain function, which the walk leaves alone -/
def nth (xs : List Int) (k : Nat) : Int := xs.getD k 0
theorem nth_get (xs : List Int) (k : Nat) (h : k < xs.length) : nth xs k = xs[k] := by simp [nth, h]
/-- the slice at an address reads as a list -/
structure Rd (w : World) (a : Option Addr) (xs : List Int) : Prop where
  len : xs.length ≤ 9223372036854775807
  cell : ∀ k, k < xs.length → ∃ b off, a = some ⟨b, off, none⟩ ∧ b < w.heap.size ∧ w.cell? ⟨b, off + k, none⟩ = some (.int .i64 (nth xs k))
theorem Rd.below {w w' : World} {a : Option Addr} {xs : List Int} (h : Rd w a xs) (hb : Below w.heap.size w w') : Rd w' a xs :=
  ⟨h.len, fun k hk => by
    obtain ⟨b, off, e, hl, hc⟩ := h.cell k hk
    exact ⟨b, off, e, Nat.lt_of_lt_of_le hl hb.size, (hb.cell (World.block_lt_of_cell? _ _ hc)).trans hc⟩⟩
theorem Rd.mid {w w1 w2 : World} {a : Option Addr} {xs : List Int} {B : Nat} (h : Rd w a xs) (hb : Below B w1 w2) (hB : w.heap.size ≤ B) (h1 : Rd w1 a xs) : Rd w2 a xs :=
  ⟨h.len, fun k hk => by
    obtain ⟨b, off, e, hl, hc⟩ := h.cell k hk
    obtain ⟨b', off', e', hl', hc'⟩ := h1.cell k hk
    rw [e] at e'
    simp only [Option.some.injEq, Addr.mk.injEq, and_true] at e'
    obtain ⟨rfl, rfl⟩ := e'
    exact ⟨b, off, e, Nat.lt_of_lt_of_le hl' hb.size, (hb.cell (by show b < B; omega)).trans hc'⟩⟩
theorem Rd.alloc {w : World} {a : Option Addr} {xs : List Int} (h : Rd w a xs) (o : Obj) : Rd (w.alloc o) a xs :=
  h.below ((Below.refl _ _).alloc (Nat.le_refl _) o)
theorem Rd.same {w w' : World} {a : Option Addr} {xs : List Int} (h : Rd w a xs) (hs : w.heap.size ≤ w'.heap.size)
    (hb : ∀ b off, a = some ⟨b, off, none⟩ → w'.heap[b]? = w.heap[b]?) : Rd w' a xs :=
  ⟨h.len, fun k hk => by
    obtain ⟨b, off, e, hl, hc⟩ := h.cell k hk
    exact ⟨b, off, e, Nat.lt_of_lt_of_le hl hs, (World.cell?_of_block (w := w) (a := ⟨b, off + k, none⟩) (hb b off e)).trans hc⟩⟩
/-- a slice value that owns the row of these integers, in a block from B on -/
def OwnI (w : World) (B : Nat) (v : Value) (xs : List Int) : Prop := w.ownsRow B 3 1 v xs.length (xs.map (Value.int .i64))
theorem OwnI.form {w : World} {B : Nat} {v : Value} {xs : List Int} (h : OwnI w B v xs) : ∃ a cap, v = .slice a xs.length cap := by
  rcases h.2 with ⟨rfl, h0⟩ | ⟨g, cap, cur, rfl, _⟩
  · exact ⟨none, 0, by rw [h0]⟩
  · exact ⟨_, _, rfl⟩
theorem OwnI.rd {w : World} {B n cap : Nat} {a : Option Addr} {xs : List Int} (h : OwnI w B (.slice a n cap) xs) : Rd w a xs := by
  rcases h.2 with ⟨e, h0⟩ | ⟨g, cap', cur, e, hb, hg, hn, hm, hs, ht⟩
  · exact ⟨by omega, fun k hk => by omega⟩
  · simp only [Value.slice.injEq] at e
    obtain ⟨rfl, rfl, rfl⟩ := e
    refine ⟨by unfold maxLen at hm; omega, fun k hk => ⟨g, 0, rfl, (Array.getElem?_eq_some_iff.1 hg).1, ?_⟩⟩
    have := World.ownsRow.cellAt h k (by omega)
    rw [Nat.zero_add, this]
    simp [nth, hk]
theorem OwnI.blk {w : World} {B n cap : Nat} {a : Option Addr} {xs : List Int} (h : OwnI w B (.slice a n cap) xs) : ∀ b off s, a = some ⟨b, off, s⟩ → B ≤ b ∧ b < w.heap.size := by
  intro b off s e
  subst e
  exact World.ownsRow.lt h b rfl
theorem OwnI.kept {w w' : World} {B : Nat} {v : Value} {xs : List Int} {row : Option Nat} (h : OwnI w B v xs) (hg : w.grownBy w' row) (hne : v.ownBlock = none ∨ v.ownBlock ≠ row) : OwnI w' B v xs := World.ownsRow.kept h hg hne
theorem OwnI.mono {w : World} {B B' : Nat} {v : Value} {xs : List Int} (h : OwnI w B v xs) (hB : B' ≤ B) : OwnI w B' v xs := by
  refine ⟨h.1, ?_⟩
  rcases h.2 with hn | ⟨g, cap, cur, e, hb, rest⟩
  · exact .inl hn
  · exact .inr ⟨g, cap, cur, e, by omega, rest⟩
theorem OwnI.below {w w' : World} {B B' : Nat} {v : Value} {xs : List Int} (h : OwnI w B v xs) (hb : Below B' w w') (hB : w.heap.size ≤ B') : OwnI w' B v xs := by
  refine ⟨h.1, ?_⟩
  rcases h.2 with hn | ⟨g, cap, cur, e, hb', hg, rest⟩
  · exact .inl hn
  · refine .inr ⟨g, cap, cur, e, hb', ?_, rest⟩
    rw [hb.block g (by have := (Array.getElem?_eq_some_iff.1 hg).1; omega)]
    exact hg
theorem ret_bool {a b : Bool} (h : a = b) : Ending.returned (.bool a) = .returned (.bool b) := by rw [h]
theorem ret_int {a b : Int} (h : a = b) : Ending.returned (.int .i64 a) = .returned (.int .i64 b) := by rw [h]
theorem val_int {a b : Int} (h : a = b) : Value.int .i64 a = .int .i64 b := by rw [h]
theorem grown_below {w w' : World} {g : Nat} (h : w.grownBy w' (some g)) (B : Nat) (hB : B ≤ g) (hs : B ≤ w.heap.size) : Below B w w' :=
  ⟨h.os, h.tape, h.output, h.size, fun k hk => h.block k (by omega) (by intro e; simp only [Option.some.injEq] at e; omega)⟩
theorem below_grown {w w' : World} {B : Nat} (h : Below B w w') (hB : w.heap.size ≤ B) (row : Option Nat) : w.grownBy w' row :=
  ⟨h.os, h.tape, h.output, h.size, fun k hk _ => h.block k (by omega)⟩
theorem bcell {W w1 : World} (hb : Below W.heap.size W w1) : (∀ b o, b < W.heap.size → w1.cell? ⟨b, o, none⟩ = W.cell? ⟨b, o, none⟩) ∧ (∀ b o, b < W.heap.size → w1.frozen? ⟨b, o, none⟩ = W.frozen? ⟨b, o, none⟩) :=
  ⟨fun b o h => hb.cell (p := ⟨b, o, none⟩) h, fun b o h => hb.frozen (p := ⟨b, o, none⟩) h⟩
theorem infoInt : (Try.prog.info? 3).map (fun i => (i.zero, i.size, i.bytes)) = some (some (.int .i64 0), 1, 8) := by kernel_rfl
theorem OwnI.setBelow {w : World} {B : Nat} {v : Value} {xs : List Int} (h : OwnI w B v xs) {p : Addr} (hp : p.block < B) (u : Value) : OwnI (w.setCell p u) B v xs := ownsRow_setCell_below h hp u
theorem OwnI.alloc {w : World} {B : Nat} {v : Value} {xs : List Int} (h : OwnI w B v xs) (o : Obj) : OwnI (w.alloc o) B v xs := h.below ((Below.refl _ _).alloc (Nat.le_refl _) o) (Nat.le_refl _)
theorem Below.mono' {B B' : Nat} {w w' : World} (h : Below B w w') (hB : B' ≤ B) : Below B' w w' := h.mono hB
/-- a block that holds two cells -/
def Box2 (w : World) (b : Nat) (u v : Value) : Prop := b < w.heap.size ∧ w.cell? ⟨b, 0, none⟩ = some u ∧ w.cell? ⟨b, 1, none⟩ = some v
theorem Box2.below {w w' : World} {b : Nat} {u v : Value} (h : Box2 w b u v) (hb : Below w.heap.size w w') : Box2 w' b u v :=
  ⟨Nat.lt_of_lt_of_le h.1 hb.size, (hb.cell (p := ⟨b, 0, none⟩) h.1).trans h.2.1, (hb.cell (p := ⟨b, 1, none⟩) h.1).trans h.2.2⟩
theorem Box2.new (w : World) (u v : Value) (t : TypeId) : Box2 (w.alloc (.cells #[u, v] t)) w.heap.size u v :=
  ⟨by simp, by simp, by simp⟩
theorem Box2.kept {w w' : World} {b : Nat} {u v : Value} {row : Option Nat} (h : Box2 w b u v) (hg : w.grownBy w' row) (hne : some b ≠ row) : Box2 w' b u v :=
  ⟨Nat.lt_of_lt_of_le h.1 hg.size, hg.cell h.2.1 hne, hg.cell h.2.2 hne⟩
theorem OwnI.lt {w : World} {B : Nat} {v : Value} {xs : List Int} (h : OwnI w B v xs) : ∀ b, v.ownBlock = some b → B ≤ b ∧ b < w.heap.size := World.ownsRow.lt h
theorem OwnI.cut {w : World} {B : Nat} {v : Value} {xs : List Int} (h : OwnI w B v xs) {U : Nat} (hU : w.heap.size ≤ U) : ∀ b, v.ownBlock = some b → B ≤ b ∧ b < U := fun b e => ⟨(h.lt b e).1, Nat.lt_of_lt_of_le (h.lt b e).2 hU⟩
/-- a block of two cells that may be written -/
def Var2 (w : World) (b : Nat) (u v : Value) : Prop := Box2 w b u v ∧ w.frozen? ⟨b, 0, none⟩ = false ∧ w.frozen? ⟨b, 1, none⟩ = false
theorem Var2.below {w w' : World} {b : Nat} {u v : Value} (h : Var2 w b u v) (hb : Below w.heap.size w w') : Var2 w' b u v :=
  ⟨h.1.below hb, (hb.frozen (p := ⟨b, 0, none⟩) h.1.1).trans h.2.1, (hb.frozen (p := ⟨b, 1, none⟩) h.1.1).trans h.2.2⟩
theorem Var2.new (w : World) (u v : Value) (t : TypeId) : Var2 (w.alloc (.cells #[u, v] t)) w.heap.size u v :=
  ⟨Box2.new w u v t, by simp, by simp⟩
theorem Var2.alloc {w : World} {b : Nat} {u v : Value} (h : Var2 w b u v) (o : Obj) : Var2 (w.alloc o) b u v := h.below ((Below.refl _ _).alloc (Nat.le_refl _) o)
theorem Var2.kept {w w' : World} {b : Nat} {u v : Value} {row : Option Nat} (h : Var2 w b u v) (hg : w.grownBy w' row) (hne : some b ≠ row) : Var2 w' b u v :=
  ⟨h.1.kept hg hne, (World.frozen?_of_block (w := w) (a := ⟨b, 0, none⟩) (hg.block b h.1.1 hne)).trans h.2.1, (World.frozen?_of_block (w := w) (a := ⟨b, 1, none⟩) (hg.block b h.1.1 hne)).trans h.2.2⟩
theorem Var2.set {w : World} {b : Nat} {u v : Value} (h : Var2 w b u v) (u' v' : Value) : Var2 ((w.setCell ⟨b, 0, none⟩ u').setCell ⟨b, 1, none⟩ v') b u' v' := by
  refine ⟨⟨by simpa using h.1.1, ?_, ?_⟩, by simpa using h.2.1, by simpa using h.2.2⟩
  · rw [World.cell?_setCell_other _ _ _ _ (by simp), World.cell?_setCell_same _ _ _ h.1.2.1]
  · rw [World.cell?_setCell_same _ _ _ (u := v) (by rw [World.cell?_setCell_other _ _ _ _ (by simp)]; exact h.1.2.2)]
theorem grown_set (w : World) (p : Addr) (u : Value) : w.grownBy (w.setCell p u) (some p.block) :=
  ⟨rfl, rfl, rfl, by simp, fun k hk hn => Below.heap_setCell w p u k (fun e => hn (by rw [e]))⟩
theorem Var2.set1 {w : World} {b : Nat} {u v : Value} (h : Var2 w b u v) (v' : Value) : Var2 (w.setCell ⟨b, 1, none⟩ v') b u v' := by
  refine ⟨⟨by simpa using h.1.1, ?_, ?_⟩, by simpa using h.2.1, by simpa using h.2.2⟩
  · rw [World.cell?_setCell_other _ _ _ _ (by simp)]; exact h.1.2.1
  · rw [World.cell?_setCell_same _ _ _ h.1.2.2]
theorem Box2.set {w : World} {b : Nat} {u v : Value} (h : Box2 w b u v) {p : Addr} (x : Value) (hne : b ≠ p.block) : Box2 (w.setCell p x) b u v :=
  h.kept (grown_set w p x) (by simpa using hne)
theorem Var2.other {w : World} {b : Nat} {u v : Value} (h : Var2 w b u v) {p : Addr} (x : Value) (hne : b ≠ p.block) : Var2 (w.setCell p x) b u v :=
  h.kept (grown_set w p x) (by simpa using hne)
theorem ne_own {v : Value} {b : Nat} (h : ∀ c, v.ownBlock = some c → c ≠ b) : some b ≠ v.ownBlock := fun e => h b e.symm rfl
theorem grown_alloc_set {w w1 : World} {r : Option Nat} {o : Obj} (h : (w.alloc o).grownBy w1 r) : w.grownBy w1 r :=
  ⟨h.os, h.tape, h.output, by have := h.size; simp at this; omega, fun k hk hn => (h.block k (by simp; omega) hn).trans (Below.heap_alloc w o k hk)⟩
theorem grown_trans {w w1 w2 : World} {r : Option Nat} (h1 : w.grownBy w1 r) (h2 : w1.grownBy w2 r) : w.grownBy w2 r :=
  ⟨h2.os.trans h1.os, h2.tape.trans h1.tape, h2.output.trans h1.output, Nat.le_trans h1.size h2.size, fun k hk hn => (h2.block k (by have := h1.size; omega) hn).trans (h1.block k hk hn)⟩
theorem OwnI.nil (w : World) (B : Nat) : OwnI w B (.slice none 0 0) [] := World.ownsRow_nil _ _ _ _
theorem below_of_grown {w w' : World} {v : Value} {B : Nat} (hg : w.grownBy w' v.ownBlock) (hB : ∀ b, v.ownBlock = some b → B ≤ b) (hs : B ≤ w.heap.size) : Below B w w' :=
  ⟨hg.os, hg.tape, hg.output, hg.size, fun k hk => hg.block k (by omega) (fun e => by have := hB k e.symm; omega)⟩

/-- a row of a list of rows -/
def rowL (xss : List (List Int)) (k : Nat) : List Int := xss.getD k []
/-- how many numbers the first k rows have -/
def totS (xss : List (List Int)) : Nat → Nat
  | 0 => 0
  | k+1 => totS xss k + (rowL xss k).length
theorem totS_mono {xss : List (List Int)} {j : Nat} : ∀ {k : Nat}, j ≤ k → totS xss j ≤ totS xss k
  | 0, h => by obtain rfl : j = 0 := by omega
               exact Nat.le_refl _
  | k+1, h => by
    by_cases e : j = k + 1
    · rw [e]; exact Nat.le_refl _
    · have := totS_mono (xss := xss) (j := j) (k := k) (by omega)
      simp only [totS]; omega
theorem row_tot {xss : List (List Int)} {k n : Nat} (h : k < n) : (rowL xss k).length ≤ totS xss n := by
  have := totS_mono (xss := xss) (j := k + 1) (k := n) (by omega)
  simp only [totS] at this
  omega
/-- the slice of slices at an address reads as a list of rows -/
structure RdS (w : World) (a : Option Addr) (xss : List (List Int)) : Prop where
  len : xss.length ≤ 9223372036854775807
  row : ∀ k, k < xss.length → ∃ b off a' cap', a = some ⟨b, off, none⟩ ∧ b < w.heap.size ∧ w.cell? ⟨b, off + k, none⟩ = some (.slice a' (rowL xss k).length cap') ∧ Rd w a' (rowL xss k)
theorem RdS.below {w w' : World} {a : Option Addr} {xss : List (List Int)} (h : RdS w a xss) (hb : Below w.heap.size w w') : RdS w' a xss :=
  ⟨h.len, fun k hk => by
    obtain ⟨b, off, a', cap', e, hl, hc, hr⟩ := h.row k hk
    exact ⟨b, off, a', cap', e, Nat.lt_of_lt_of_le hl hb.size, (hb.cell (World.block_lt_of_cell? _ _ hc)).trans hc, hr.below hb⟩⟩
theorem ownsRow_bel {w w' : World} {B B' : Nat} {e : TypeId} {size : Nat} {v : Value} {n : Nat} {xs : List Value} (h : w.ownsRow B e size v n xs) (hb : Below B' w w') (hB : w.heap.size ≤ B') : w'.ownsRow B e size v n xs := by
  refine ⟨h.1, ?_⟩
  rcases h.2 with hn | ⟨g, cap, cur, e, hb', hg, rest⟩
  · exact .inl hn
  · refine .inr ⟨g, cap, cur, e, hb', ?_, rest⟩
    rw [hb.block g (by have := (Array.getElem?_eq_some_iff.1 hg).1; omega)]
    exact hg
def valAt (vl : List Value) (k : Nat) : Value := vl.getD k (.slice none 0 0)
/-- a slice of slices that owns its rows: the outer block is g -/
structure OwnS (w : World) (B g : Nat) (vl : List Value) (xss : List (List Int)) : Prop where
  lo : B ≤ g
  hi : g < w.heap.size
  max : xss.length ≤ 9223372036854775807
  cell : ∀ k, k < xss.length → w.cell? ⟨g, k, none⟩ = some (valAt vl k)
  row : ∀ k, k < xss.length → OwnI w (g + 1) (valAt vl k) (rowL xss k)
  apart : ∀ j k, j < k → k < xss.length → ∀ c d, (valAt vl j).ownBlock = some c → (valAt vl k).ownBlock = some d → c < d
theorem OwnS.rd {w : World} {B g : Nat} {vl : List Value} {xss : List (List Int)} (h : OwnS w B g vl xss) : RdS w (some ⟨g, 0, none⟩) xss :=
  ⟨h.max, fun k hk => by
    have h1 := h.row k hk
    have h2 := h.cell k hk
    obtain ⟨a', cap', e⟩ := h1.form
    rw [e] at h1 h2
    exact ⟨g, 0, a', cap', rfl, h.hi, by rw [Nat.zero_add]; exact h2, h1.rd⟩⟩
theorem OwnS.below {w w' : World} {B B' g : Nat} {vl : List Value} {xss : List (List Int)} (h : OwnS w B g vl xss) (hb : Below B' w w') (hB : w.heap.size ≤ B') : OwnS w' B g vl xss :=
  ⟨h.lo, Nat.lt_of_lt_of_le h.hi hb.size, h.max, fun k hk => (hb.cell (p := ⟨g, k, none⟩) (Nat.lt_of_lt_of_le h.hi hB)).trans (h.cell k hk), fun k hk => (h.row k hk).below hb hB, h.apart⟩
theorem OwnS.cut {w : World} {B g : Nat} {vl : List Value} {xss : List (List Int)} (h : OwnS w B g vl xss) {U : Nat} (hU : w.heap.size ≤ U) : B ≤ g ∧ ∀ k, k < xss.length → ∀ c, (valAt vl k).ownBlock = some c → g < c ∧ c < U :=
  ⟨h.lo, fun k hk c e => by have := (h.row k hk).lt c e; omega⟩
/-- only blocks of a stretch are written -/
structure TouchS (lo hi : Nat) (w w' : World) : Prop where
  os : w'.os = w.os
  tape : w'.tape = w.tape
  output : w'.output = w.output
  size : w.heap.size ≤ w'.heap.size
  block : ∀ k, k < w.heap.size → k < lo ∨ hi ≤ k → w'.heap[k]? = w.heap[k]?
theorem TouchS.refl (lo hi : Nat) (w : World) : TouchS lo hi w w := ⟨rfl, rfl, rfl, Nat.le_refl _, fun _ _ _ => rfl⟩
theorem TouchS.step {lo hi : Nat} {w w1 w2 : World} {r : Option Nat} (h : TouchS lo hi w w1) (hg : w1.grownBy w2 r) (hr : ∀ c, r = some c → lo ≤ c ∧ c < hi) : TouchS lo hi w w2 :=
  ⟨hg.os.trans h.os, hg.tape.trans h.tape, hg.output.trans h.output, Nat.le_trans h.size hg.size, fun k hk hn => (hg.block k (by have := h.size; omega) (fun e => by have := hr k e.symm; omega)).trans (h.block k hk hn)⟩
theorem TouchS.below {lo hi B : Nat} {w w' : World} (h : TouchS lo hi w w') (hB : B ≤ lo) (hs : B ≤ w.heap.size) : Below B w w' :=
  ⟨h.os, h.tape, h.output, h.size, fun k hk => h.block k (by omega) (by omega)⟩
theorem TouchS.other {lo hi : Nat} {w w' : World} (h : TouchS lo hi w w') (b : Nat) (hb : b < lo ∨ hi ≤ b) (hs : b < w.heap.size) : ∀ r, w'.heap[b]? = w.heap[b]? ∧ (r = some b → True) := fun _ => ⟨h.block b hs hb, fun _ => trivial⟩
theorem Box2.touch {lo hi : Nat} {w w' : World} {b : Nat} {u v : Value} (h : Box2 w b u v) (ht : TouchS lo hi w w') (hb : b < lo ∨ hi ≤ b) : Box2 w' b u v :=
  ⟨Nat.lt_of_lt_of_le h.1 ht.size, (World.cell?_of_block (w := w) (a := ⟨b, 0, none⟩) (ht.block b h.1 hb)).trans h.2.1, (World.cell?_of_block (w := w) (a := ⟨b, 1, none⟩) (ht.block b h.1 hb)).trans h.2.2⟩
theorem OwnI.touch {lo hi : Nat} {w w' : World} {B : Nat} {v : Value} {xs : List Int} (h : OwnI w B v xs) (ht : TouchS lo hi w w') (hb : ∀ c, v.ownBlock = some c → c < lo ∨ hi ≤ c) : OwnI w' B v xs := by
  refine ⟨h.1, ?_⟩
  rcases h.2 with hn | ⟨g, cap, cur, e, hb', hg, rest⟩
  · exact .inl hn
  · refine .inr ⟨g, cap, cur, e, hb', ?_, rest⟩
    rw [ht.block g (Array.getElem?_eq_some_iff.1 hg).1 (hb g (by rw [e]; rfl))]
    exact hg

def szF (left : Int) (n : Nat) : Int := if left - n < 0 then -1 else left - n
theorem szIntS_any (a : Option Addr) (n cap : Nat) (l : Int) (w : World) (h0 : 0 ≤ l) (h1 : l ≤ 1048576) (hn : n ≤ 9223372036854775807) :
    Calls Try.prog 57 #[.slice a n cap, .int .i64 l] w fun e w' => e = .returned (.int .i64 (szF l n)) ∧ w = w' := by
  by_cases h : l - n < 0
  · go_enter Try.func57, Try.ntmps57
    go_wp2
    go_ret
    exact ⟨ret_int (by simp [szF, h]), rfl⟩
  · go_enter Try.func57, Try.ntmps57
    go_wp2
    go_ret
    exact ⟨ret_int (by rw [szF, if_neg (by omega)]), rfl⟩

theorem szIntSS_any (a : Option Addr) (xss : List (List Int)) (cap : Nat) (l : Int) (w : World) (h0 : 0 ≤ l) (h1 : l ≤ 1048576) (hx : RdS w a xss) :
    Calls Try.prog 30 #[.slice a xss.length cap, .int .i64 l] w fun e w' => (∃ r : Int, e = .returned (.int .i64 r) ∧ ((l < ((xss.length + totS xss xss.length : Nat) : Int) ∧ r = -1) ∨ (((xss.length + totS xss xss.length : Nat) : Int) ≤ l ∧ r = l - ((xss.length + totS xss xss.length : Nat) : Int)))) ∧ w = w' := by
  have hlen := hx.len
  by_cases hl : l - (xss.length : Int) < 0
  · go_enter Try.func30, Try.ntmps30
    go_wp2_with fail
    go_ret
    exact ⟨⟨_, rfl, .inl ⟨by omega, rfl⟩⟩, rfl⟩
  · go_enter Try.func30, Try.ntmps30
    go_wp2_with fail
    go_loop [1, 5] (fun s i => ∃ k : Nat, k ≤ xss.length ∧ i = .int .i64 k ∧ s = .int .i64 (l - (xss.length : Int) - ((totS xss k : Nat) : Int)) ∧ 0 ≤ l - (xss.length : Int) - ((totS xss k : Nat) : Int)) (fun _ i => xss.length - (intOf i).toNat)
    case atStart => exact ⟨0, Nat.zero_le _, rfl, by simp [totS], by simp [totS]; omega⟩
    case round =>
      obtain ⟨k, hk, rfl, rfl, hp⟩ := hrel
      by_cases hlt : k < xss.length
      · obtain ⟨b, off, a', cap', rfl, hbl, hc, hr⟩ := hx.row k hlt
        have HN : Hid (totS xss (k+1) = totS xss k + (rowL xss k).length) := rfl
        have hmn := totS_mono (xss := xss) (j := k + 1) (k := xss.length) (by omega)
        obtain ⟨n, hn⟩ : ∃ n, n = (rowL xss k).length := ⟨_, rfl⟩
        obtain ⟨T, hT⟩ : ∃ T, T = totS xss k := ⟨_, rfl⟩
        have hrl := hr.len
        rw [HN.out] at hmn
        rw [← hn] at hmn hc HN hrl
        rw [← hT] at hmn HN hp ⊢
        have k1 : (k : Int) < (xss.length : Int) := by omega
        clear hr hn hT
        by_cases hz : l - (xss.length : Int) - (T : Int) - (n : Int) < 0
        · have hs : szF (l - (xss.length : Int) - (T : Int)) n = -1 := by simp only [szF]; rw [if_pos hz]
          have HS := Lib.hid hs
          clear hs
          go_wp2_with fail
          refine (szIntS_any _ _ _ _ _ hp (by omega) hrl).mono ?_
          rw [HS.out]
          rintro e w' ⟨rfl, rfl⟩
          go_wp2_with fail
          go_ret
          exact ⟨⟨_, rfl, .inl ⟨by omega, rfl⟩⟩, rfl⟩
        · have hs : szF (l - (xss.length : Int) - (T : Int)) n = l - (xss.length : Int) - (T : Int) - (n : Int) := by simp only [szF]; rw [if_neg hz]
          have HS := Lib.hid hs
          clear hs
          go_wp2_with fail
          refine (szIntS_any _ _ _ _ _ hp (by omega) hrl).mono ?_
          rw [HS.out]
          rintro e w' ⟨rfl, rfl⟩
          go_wp2_with fail
          go_round
          case rel => exact ⟨k + 1, by omega, by go_num, val_int (by rw [HN.out]; omega), by rw [HN.out]; omega⟩
          case measure => simp [intOf]; omega
      · obtain rfl : k = xss.length := by omega
        go_wp2_with fail
        go_ret
        exact ⟨⟨_, rfl, .inr ⟨by omega, by omega⟩⟩, rfl⟩
theorem szIntSS_ok {a : Option Addr} {xss : List (List Int)} {cap : Nat} {w : World} (h : ((xss.length + totS xss xss.length : Nat) : Int) ≤ 1048576) (hx : RdS w a xss) :
    Calls Try.prog 30 #[.slice a xss.length cap, .int .i64 1048576] w fun e w' => e = .returned (.int .i64 (1048576 - ((xss.length + totS xss xss.length : Nat) : Int))) ∧ w = w' :=
  (szIntSS_any a xss cap 1048576 w (by omega) (by omega) hx).mono (fun e w' ⟨⟨r, he, hr⟩, hw⟩ => ⟨by rcases hr with ⟨h2, _⟩ | ⟨_, h2⟩; (· omega); (· rw [he, h2]), hw⟩)
theorem szIntSS_no {a : Option Addr} {xss : List (List Int)} {cap : Nat} {w : World} (h : 1048576 < ((xss.length + totS xss xss.length : Nat) : Int)) (hx : RdS w a xss) :
    Calls Try.prog 30 #[.slice a xss.length cap, .int .i64 1048576] w fun e w' => e = .returned (.int .i64 (-1)) ∧ w = w' :=
  (szIntSS_any a xss cap 1048576 w (by omega) (by omega) hx).mono (fun e w' ⟨⟨r, he, hr⟩, hw⟩ => ⟨by rcases hr with ⟨_, h2⟩ | ⟨h2, _⟩; (· rw [he, h2]); (· omega), hw⟩)

theorem szMx_ok {a : Option Addr} {xss : List (List Int)} {cap : Nat} {w : World} (h : ((xss.length + totS xss xss.length : Nat) : Int) ≤ 1048576) (hx : RdS w a xss) :
    Calls Try.prog 9 #[.agg #[.slice a xss.length cap], .int .i64 1048576] w fun e w' => e = .returned (.int .i64 (1048576 - ((xss.length + totS xss xss.length : Nat) : Int))) ∧ Below w.heap.size w w' := by
  have hlen := hx.len
  go_enter Try.func9, Try.ntmps9
  go_wp2_with fail
  refine (szIntSS_ok h (hx.below (by repeat (first | exact Below.refl _ _ | assumption | refine Below.alloc ?_ (by first | exact Nat.le_refl _ | (simp only [World.size_alloc, World.size_setCell, World.size_drew]; omega) | omega) _ | refine Below.setCell ?_ (by first | exact Nat.le_refl _ | (simp only [World.size_alloc, World.size_setCell, World.size_drew]; omega) | omega) _ | refine Below.drew ?_)))).mono ?_
  rintro e w' ⟨rfl, rfl⟩
  go_wp2_with fail
  go_ret
  exact ⟨rfl, (by repeat (first | exact Below.refl _ _ | assumption | refine Below.alloc ?_ (by first | exact Nat.le_refl _ | (simp only [World.size_alloc, World.size_setCell, World.size_drew]; omega) | omega) _ | refine Below.setCell ?_ (by first | exact Nat.le_refl _ | (simp only [World.size_alloc, World.size_setCell, World.size_drew]; omega) | omega) _ | refine Below.drew ?_))⟩
theorem szMx_no {a : Option Addr} {xss : List (List Int)} {cap : Nat} {w : World} (h : 1048576 < ((xss.length + totS xss xss.length : Nat) : Int)) (hx : RdS w a xss) :
    Calls Try.prog 9 #[.agg #[.slice a xss.length cap], .int .i64 1048576] w fun e w' => e = .returned (.int .i64 (-1)) ∧ Below w.heap.size w w' := by
  have hlen := hx.len
  go_enter Try.func9, Try.ntmps9
  go_wp2_with fail
  refine (szIntSS_no h (hx.below (by repeat (first | exact Below.refl _ _ | assumption | refine Below.alloc ?_ (by first | exact Nat.le_refl _ | (simp only [World.size_alloc, World.size_setCell, World.size_drew]; omega) | omega) _ | refine Below.setCell ?_ (by first | exact Nat.le_refl _ | (simp only [World.size_alloc, World.size_setCell, World.size_drew]; omega) | omega) _ | refine Below.drew ?_)))).mono ?_
  rintro e w' ⟨rfl, rfl⟩
  go_wp2_with fail
  go_ret
  exact ⟨rfl, (by repeat (first | exact Below.refl _ _ | assumption | refine Below.alloc ?_ (by first | exact Nat.le_refl _ | (simp only [World.size_alloc, World.size_setCell, World.size_drew]; omega) | omega) _ | refine Below.setCell ?_ (by first | exact Nat.le_refl _ | (simp only [World.size_alloc, World.size_setCell, World.size_drew]; omega) | omega) _ | refine Below.drew ?_))⟩

theorem set_step (xs : List Int) (k : Nat) (h : k < xs.length) :
    ((xs.take k ++ List.replicate (xs.length - k) (0:Int)).map (Value.int .i64)).set k (.int .i64 (nth xs k)) = (xs.take (k+1) ++ List.replicate (xs.length - (k+1)) (0:Int)).map (Value.int .i64) := by
  apply List.ext_getElem?
  intro j
  have hk : (xs.take k).length = k := by simp; omega
  have hk1 : (xs.take (k+1)).length = k+1 := by simp; omega
  rw [List.getElem?_set]
  by_cases hj : k = j
  · subst hj
    rw [if_pos rfl, if_pos (by simp; omega), List.getElem?_map, List.getElem?_append_left (by omega)]
    simp [nth, h]
  · simp only [hj, if_false, List.getElem?_map, List.getElem?_append, hk, hk1, List.getElem?_take, List.getElem?_replicate]
    by_cases h1 : j < k
    · have h2 : j < k + 1 := by omega
      simp [h1, h2]
    · have h2 : ¬ j < k + 1 := by omega
      have h3 : j - k < xs.length - k ↔ j - (k+1) < xs.length - (k+1) := by omega
      simp [h1, h2, h3]
theorem toIntS_any (a : Option Addr) (xs : List Int) (cap : Nat) (w : World) (hx : Rd w a xs) (hn : xs.length ≤ 1048576) :
    Calls Try.prog 19 #[.slice a xs.length cap] w fun e w' => ∃ a' cap', e = .returned (.slice a' xs.length cap') ∧ OwnI w' w.heap.size (.slice a' xs.length cap') xs ∧ Below w.heap.size w w' := by
  obtain ⟨i0, hi, hz0, hz1, hz2⟩ := info_parts infoInt
  go_enter Try.func19, Try.ntmps19
  go_wp2_with (at_make; refine wpList_make_full _ rfl (.tmp 6) (.tmp 6) 26 rfl w.heap.size 3 i0 (.int .i64 0) 1 Try.underlying26 hi hz0 hz1 .i64 .i64 _ _ xs.length rfl rfl rfl rfl (by rw [hz2]; omega) (by unfold maxLen; omega) (Nat.le_refl _) ?_; intro w1 hown hgrow)
  have hb0 : Below w.heap.size w w1 := (Below.refl _ _).grown hgrow (Nat.le_refl _) (fun k h => by cases h)
  have hown0 : w1.ownsRow w.heap.size 3 1 (.slice (some ⟨w.heap.size, 0, none⟩) xs.length xs.length) xs.length ((xs.take 0 ++ List.replicate (xs.length - 0) (0:Int)).map (Value.int .i64)) := by
    simpa [Value.cells, toList_madeCells_one] using hown
  clear hown hgrow
  have hz : w.heap.size < w1.heap.size := by
    have := (World.ownsRow.lt hown0 w.heap.size rfl).2
    omega
  go_loopw [4] (fun i wr => ∃ k : Nat, k ≤ xs.length ∧ i = .int .i64 k ∧ wr.ownsRow w.heap.size 3 1 (.slice (some ⟨w.heap.size, 0, none⟩) xs.length xs.length) xs.length ((xs.take k ++ List.replicate (xs.length - k) (0:Int)).map (Value.int .i64)) ∧ Below w.heap.size w wr) (fun i _ => xs.length - (intOf i).toNat)
  case atStart => exact ⟨0, Nat.zero_le _, rfl, hown0, hb0⟩
  case round =>
    obtain ⟨k, hk, rfl, hown, hb⟩ := hrel
    by_cases hlt : k < xs.length
    · obtain ⟨b, off, rfl, hbl, hc⟩ := hx.cell k hlt
      have hc1 := (hb.cell (p := ⟨b, off + k, none⟩) hbl).trans hc
      have hst := World.ownsRow.stored hown k (.int .i64 (nth xs k))
      rw [set_step xs k hlt] at hst
      have hcc := World.ownsRow.cellAt hown k (by omega)
      have hfr := World.ownsRow.frozenAt hown k
      have hcc' : ∃ u, wr.cell? ⟨w.heap.size, k, none⟩ = some u := by
        rw [hcc]
        exact ⟨_, List.getElem?_eq_getElem (by simp; omega)⟩
      obtain ⟨u, hu⟩ := hcc'
      have Hst := Lib.hid hst
      clear hst hcc hown hc
      go_wp2
      go_roundw
      case rel => exact ⟨k + 1, by omega, by go_num, Hst.out.1, hb.setCell (Nat.le_refl _) _⟩
      case measure => simp [intOf]; omega
    · obtain rfl : k = xs.length := by omega
      go_wp2
      go_ret
      refine ⟨_, _, rfl, ?_, hb⟩
      have : xs.take xs.length ++ List.replicate (xs.length - xs.length) (0:Int) = xs := by simp
      rw [this] at hown
      exact hown

theorem infoIntS : (Try.prog.info? 26).map (fun i => (i.zero, i.size, i.bytes)) = some (some (.slice none 0 0), 1, 24) := by kernel_rfl
theorem sset_step (vl : List Value) (n k : Nat) (v z : Value) (hk : vl.length = k) (h : k < n) :
    (vl ++ List.replicate (n - k) z).set k v = (vl ++ [v]) ++ List.replicate (n - (k+1)) z := by
  rw [List.set_append_right _ _ (by omega), hk, Nat.sub_self, List.append_assoc]
  congr 1
  rw [show n - k = (n - (k+1)) + 1 by omega, List.replicate_succ, List.set_cons_zero]
  rfl
theorem valAt_app {vl : List Value} {v : Value} {k : Nat} (h : k < vl.length) : valAt (vl ++ [v]) k = valAt vl k := by
  simp [valAt, List.getElem?_append, h]
theorem valAt_last (vl : List Value) (v : Value) : valAt (vl ++ [v]) vl.length = v := by
  simp [valAt]
theorem toIntSS_any (a : Option Addr) (xss : List (List Int)) (cap : Nat) (w : World) (hx : RdS w a xss) (hn : xss.length + totS xss xss.length ≤ 1048576) :
    Calls Try.prog 33 #[.slice a xss.length cap] w fun e w' => ∃ g cap' vl, e = .returned (.slice (some ⟨g, 0, none⟩) xss.length cap') ∧ OwnS w' w.heap.size g vl xss ∧ Below w.heap.size w w' := by
  obtain ⟨i0, hi, hz0, hz1, hz2⟩ := info_parts infoIntS
  have hlen := hx.len
  go_enter Try.func33, Try.ntmps33
  go_wp2_with (at_make; refine wpList_make_full _ rfl (.tmp 6) (.tmp 6) 22 rfl w.heap.size 26 i0 (.slice none 0 0) 1 Try.underlying22 hi hz0 hz1 .i64 .i64 _ _ xss.length rfl rfl rfl rfl (by rw [hz2]; omega) (by unfold maxLen; omega) (Nat.le_refl _) ?_; intro w1 hown hgrow)
  have hb0 : Below w.heap.size w w1 := (Below.refl _ _).grown hgrow (Nat.le_refl _) (fun k h => by cases h)
  have hown0 : w1.ownsRow w.heap.size 26 1 (.slice (some ⟨w.heap.size, 0, none⟩) xss.length xss.length) xss.length ([] ++ List.replicate (xss.length - 0) (.slice none 0 0)) := by
    simpa [Value.cells, toList_madeCells_one] using hown
  clear hown hgrow
  have hz : w.heap.size < w1.heap.size := by
    have := (World.ownsRow.lt hown0 w.heap.size rfl).2
    omega
  go_loopw [4] (fun i wr => ∃ (k : Nat) (vl : List Value), k ≤ xss.length ∧ i = .int .i64 k ∧ vl.length = k ∧ wr.ownsRow w.heap.size 26 1 (.slice (some ⟨w.heap.size, 0, none⟩) xss.length xss.length) xss.length (vl ++ List.replicate (xss.length - k) (.slice none 0 0)) ∧ (∀ j, j < k → OwnI wr (w.heap.size + 1) (valAt vl j) (rowL xss j)) ∧ (∀ j i, j < i → i < k → ∀ c d, (valAt vl j).ownBlock = some c → (valAt vl i).ownBlock = some d → c < d) ∧ Below w.heap.size w wr ∧ w.heap.size < wr.heap.size) (fun i _ => xss.length - (intOf i).toNat)
  case atStart => exact ⟨0, [], Nat.zero_le _, rfl, rfl, hown0, fun j hj => by omega, fun j i _ hi => by omega, hb0, hz⟩
  case round =>
    obtain ⟨k, vl, hk, rfl, hvl, hown, hrow, hap, hb, hzr⟩ := hrel
    have HVL := Lib.hid hvl
    have HROW := Lib.hid hrow
    have HAP := Lib.hid hap
    clear hvl hrow hap
    by_cases hlt : k < xss.length
    · obtain ⟨b, off, a', cap', rfl, hbl, hc1, hr⟩ := (hx.below hb).row k hlt
      have hrt := row_tot (xss := xss) hlt
      have k1 : (k : Int) < (xss.length : Int) := by omega
      have hro : (rowL xss k).length ≤ 1048576 := by omega
      go_wp2_with fail
      refine (toIntS_any _ _ _ _ hr hro).mono ?_
      rintro e w2 ⟨a2, cap2, rfl, ho2, hb2⟩
      have hown2 := ownsRow_bel hown hb2 (Nat.le_refl _)
      have hst := World.ownsRow.stored hown2 k (.slice a2 (rowL xss k).length cap2)
      rw [sset_step vl xss.length k _ _ HVL.out hlt] at hst
      have hcc := World.ownsRow.cellAt hown2 k (by omega)
      have hfr := World.ownsRow.frozenAt hown2 k
      have hcc' : ∃ u, w2.cell? ⟨w.heap.size, k, none⟩ = some u := by
        rw [hcc]
        exact ⟨_, List.getElem?_eq_getElem (by simp [HVL.out]; omega)⟩
      obtain ⟨u, hu⟩ := hcc'
      have Hst := Lib.hid hst
      have bw2 := hb.trans (hb2.mono hb.size)
      have hz2' := hb2.size
      clear hst hcc hown hown2 hc1
      go_wp2_with fail
      go_roundw
      case rel =>
        refine ⟨k + 1, vl ++ [.slice a2 (rowL xss k).length cap2], by omega, by go_num, by simp [HVL.out], Hst.out.1, fun j hj => ?_, fun j i hji hi c d hc hd => ?_, bw2.setCell (Nat.le_refl _) _, by simp; omega⟩
        · by_cases e : j = k
          · subst e
            have hva := valAt_last vl (.slice a2 (rowL xss j).length cap2)
            rw [HVL.out] at hva
            rw [hva]
            exact (ho2.mono (B' := w.heap.size + 1) (by omega)).setBelow (show w.heap.size < w.heap.size + 1 by omega) _
          · rw [valAt_app (by rw [HVL.out]; omega)]
            exact ((HROW.out j (by omega)).below hb2 (Nat.le_refl _)).setBelow (show w.heap.size < w.heap.size + 1 by omega) _
        · rw [valAt_app (by rw [HVL.out]; omega)] at hc
          by_cases e : i = k
          · subst e
            have hva := valAt_last vl (.slice a2 (rowL xss i).length cap2)
            rw [HVL.out] at hva
            rw [hva] at hd
            have h1 := (HROW.out j (by omega)).lt c hc
            have h2 := ho2.lt d hd
            omega
          · rw [valAt_app (by rw [HVL.out]; omega)] at hd
            exact HAP.out j i hji (by omega) c d hc hd
      case measure => simp [intOf]; omega
    · obtain rfl : k = xss.length := by omega
      go_wp2_with fail
      go_ret
      refine ⟨w.heap.size, xss.length, vl, rfl, ⟨Nat.le_refl _, hzr, hlen, fun j hj => ?_, HROW.out, HAP.out⟩, hb⟩
      rw [World.ownsRow.cellAt hown j (by omega)]
      simp [valAt, List.getElem?_append, HVL.out, hj]

theorem nth_snoc_lt {ys : List Int} {x : Int} {j : Nat} (h : j < ys.length) : nth (ys ++ [x]) j = nth ys j := by
  simp [nth, List.getD_eq_getElem?_getD, List.getElem?_append_left h]
theorem nth_snoc_at (ys : List Int) (x : Int) : nth (ys ++ [x]) ys.length = x := by
  simp [nth, List.getD_eq_getElem?_getD]
/-- the sum of the first k values -/
def sumTo (f : Nat → Nat) : Nat → Nat
  | 0 => 0
  | k+1 => sumTo f k + f k
theorem sumTo_congr {f g : Nat → Nat} : ∀ {k : Nat}, (∀ j, j < k → f j = g j) → sumTo f k = sumTo g k
  | 0, _ => rfl
  | k+1, h => by rw [sumTo, sumTo, sumTo_congr (fun j hj => h j (by omega)), h k (by omega)]
theorem sumTo_le {f : Nat → Nat} {c : Nat} : ∀ {k : Nat}, (∀ j, j < k → f j ≤ c) → sumTo f k ≤ k * c
  | 0, _ => by simp [sumTo]
  | k+1, h => by
    have h1 := sumTo_le (f := f) (c := c) (k := k) (fun j hj => h j (by omega))
    have h2 := h k (by omega)
    rw [sumTo, Nat.succ_mul]; omega
theorem sumTo_mono {f : Nat → Nat} {j : Nat} : ∀ {k : Nat}, j ≤ k → sumTo f j ≤ sumTo f k
  | 0, h => by obtain rfl : j = 0 := by omega
               exact Nat.le_refl _
  | k+1, h => by
    by_cases e : j = k + 1
    · rw [e]; exact Nat.le_refl _
    · have := sumTo_mono (f := f) (j := j) (k := k) (by omega)
      rw [sumTo]; omega
/-- the first k of so many lists of rows, one after the other -/
def catTo (f : Nat → List (List Int)) : Nat → List (List Int)
  | 0 => []
  | k+1 => catTo f k ++ f k
theorem catTo_len (f : Nat → List (List Int)) : ∀ k, (catTo f k).length = sumTo (fun x => (f x).length) k
  | 0 => rfl
  | k+1 => by rw [catTo, sumTo, List.length_append, catTo_len f k]
theorem mem_catTo {f : Nat → List (List Int)} {r : List Int} : ∀ {k : Nat}, r ∈ catTo f k → ∃ j, j < k ∧ r ∈ f j
  | 0, h => by simp [catTo] at h
  | k+1, h => by
    rcases List.mem_append.1 h with h | h
    · obtain ⟨j, h1, h2⟩ := mem_catTo h
      exact ⟨j, by omega, h2⟩
    · exact ⟨k, by omega, h⟩

/-- a list of rows that has been made: the outer row is at v, and each row is one of its own -/
structure RowsO (w : World) (B : Nat) (v : Value) (vl : List Value) (xss : List (List Int)) : Prop where
  own : w.ownsRow B 26 1 v xss.length vl
  row : ∀ k, k < xss.length → OwnI w B (valAt vl k) (rowL xss k)
  apart : ∀ k, k < xss.length → ∀ c, (valAt vl k).ownBlock = some c → v.ownBlock ≠ some c
theorem RowsO.vlen {w : World} {B : Nat} {v : Value} {vl : List Value} {xss : List (List Int)} (h : RowsO w B v vl xss) : vl.length = xss.length := by
  have := h.own.1
  omega
theorem RowsO.form {w : World} {B : Nat} {v : Value} {vl : List Value} {xss : List (List Int)} (h : RowsO w B v vl xss) : ∃ a cap, v = .slice a xss.length cap := by
  rcases h.own.2 with ⟨rfl, h0⟩ | ⟨g, cap, cur, rfl, _⟩
  · exact ⟨none, 0, by rw [h0]⟩
  · exact ⟨_, _, rfl⟩
theorem RowsO.below {w w' : World} {B B' : Nat} {v : Value} {vl : List Value} {xss : List (List Int)} (h : RowsO w B v vl xss) (hb : Below B' w w') (hB : w.heap.size ≤ B') : RowsO w' B v vl xss :=
  ⟨ownsRow_bel h.own hb hB, fun k hk => (h.row k hk).below hb hB, h.apart⟩
theorem RowsO.mono {w : World} {B B' : Nat} {v : Value} {vl : List Value} {xss : List (List Int)} (h : RowsO w B v vl xss) (hB : B' ≤ B) : RowsO w B' v vl xss := by
  refine ⟨⟨h.own.1, ?_⟩, fun k hk => (h.row k hk).mono hB, h.apart⟩
  rcases h.own.2 with hn | ⟨g, cap, cur, e, hb, rest⟩
  · exact .inl hn
  · exact .inr ⟨g, cap, cur, e, by omega, rest⟩
theorem RowsO.nil (w : World) (B : Nat) : RowsO w B (.slice none 0 0) [] [] :=
  ⟨World.ownsRow_nil _ _ _ _, fun k hk => by simp at hk, fun k hk => by simp at hk⟩
theorem RowsO.lt {w : World} {B : Nat} {v : Value} {vl : List Value} {xss : List (List Int)} (h : RowsO w B v vl xss) : ∀ b, v.ownBlock = some b → B ≤ b ∧ b < w.heap.size := World.ownsRow.lt h.own
theorem valAt_get {vl : List Value} {k : Nat} (h : k < vl.length) : vl[k]? = some (valAt vl k) := by
  rw [valAt, List.getD_eq_getElem?_getD, List.getElem?_eq_getElem h]; rfl
theorem RowsO.rd {w : World} {B n cap : Nat} {a : Option Addr} {vl : List Value} {xss : List (List Int)} (h : RowsO w B (.slice a n cap) vl xss) : RdS w a xss := by
  have hvl := h.vlen
  rcases h.own.2 with ⟨e, h0⟩ | ⟨g, cap', cur, e, hb, hg, hn, hm, hs, ht⟩
  · exact ⟨by omega, fun k hk => by omega⟩
  · simp only [Value.slice.injEq] at e
    obtain ⟨rfl, rfl, rfl⟩ := e
    refine ⟨by unfold maxLen at hm; omega, fun k hk => ?_⟩
    have h1 := World.ownsRow.cellAt h.own k (by omega)
    have h2 := h.row k hk
    obtain ⟨a', c', e'⟩ := h2.form
    rw [e'] at h2
    refine ⟨g, 0, a', c', rfl, (Array.getElem?_eq_some_iff.1 hg).1, ?_, h2.rd⟩
    rw [Nat.zero_add, h1, valAt_get (by omega), e']
/-- one list of rows after the other: only the outer row of the first one has been written -/
theorem RowsO.cat {w w' : World} {B C : Nat} {v v2 v' : Value} {vl vl2 : List Value} {xss yss : List (List Int)} (h : RowsO w B v vl xss) (h2 : RowsO w C v2 vl2 yss) (hBC : B ≤ C) (hvC : ∀ c, v.ownBlock = some c → c < C)
    (ho : w'.ownsRow B 26 1 v' (xss.length + yss.length) (vl ++ vl2)) (hg : w.grownBy w' v.ownBlock) (hv' : v'.ownBlock = v.ownBlock ∨ v'.ownBlock = some w.heap.size) : RowsO w' B v' (vl ++ vl2) (xss ++ yss) := by
  have hl := h.vlen
  have hl2 := h2.vlen
  have e1 : ∀ k, k < xss.length → valAt (vl ++ vl2) k = valAt vl k ∧ rowL (xss ++ yss) k = rowL xss k := by
    intro k hk
    exact ⟨by rw [valAt, valAt, List.getD_eq_getElem?_getD, List.getD_eq_getElem?_getD, List.getElem?_append_left (by omega)], by rw [rowL, rowL, List.getD_eq_getElem?_getD, List.getD_eq_getElem?_getD, List.getElem?_append_left (by omega)]⟩
  have e2 : ∀ k, xss.length ≤ k → valAt (vl ++ vl2) k = valAt vl2 (k - xss.length) ∧ rowL (xss ++ yss) k = rowL yss (k - xss.length) := by
    intro k hk
    exact ⟨by rw [valAt, valAt, List.getD_eq_getElem?_getD, List.getD_eq_getElem?_getD, List.getElem?_append_right (by omega), hl], by rw [rowL, rowL, List.getD_eq_getElem?_getD, List.getD_eq_getElem?_getD, List.getElem?_append_right (by omega)]⟩
  have hne : ∀ k, k < (xss ++ yss).length → OwnI w B (valAt (vl ++ vl2) k) (rowL (xss ++ yss) k) ∧ ∀ c, (valAt (vl ++ vl2) k).ownBlock = some c → v.ownBlock ≠ some c ∧ c < w.heap.size := by
    intro k hk
    rw [List.length_append] at hk
    by_cases e : k < xss.length
    · rw [(e1 k e).1, (e1 k e).2]
      exact ⟨h.row k e, fun c hc => ⟨h.apart k e c hc, ((h.row k e).lt c hc).2⟩⟩
    · rw [(e2 k (by omega)).1, (e2 k (by omega)).2]
      have h3 := h2.row (k - xss.length) (by omega)
      refine ⟨h3.mono hBC, fun c hc => ⟨fun hh => ?_, (h3.lt c hc).2⟩⟩
      have := hvC c hh
      have := (h3.lt c hc).1
      omega
  refine ⟨by rw [List.length_append]; exact ho, fun k hk => ?_, fun k hk c hc => ?_⟩
  · have ⟨h3, h4⟩ := hne k hk
    refine h3.kept hg ?_
    cases hc : (valAt (vl ++ vl2) k).ownBlock with
    | none => exact .inl rfl
    | some c => exact .inr (fun hh => (h4 c hc).1 hh.symm)
  · have ⟨_, h4⟩ := hne k hk
    have ⟨h5, h6⟩ := h4 c hc
    rcases hv' with hv' | hv'
    · rw [hv']; exact h5
    · rw [hv']; intro hh; simp only [Option.some.injEq] at hh; omega
theorem infoSlice : (Try.prog.info? 26).map (fun i => (i.zero, i.size, i.bytes)) = some (some (.slice none 0 0), 1, 24) := by kernel_rfl

def inB (n lo hi : Int) : Bool := decide (lo ≤ n) && decide (n ≤ hi)
theorem inB_iff {n lo hi : Int} : inB n lo hi = true ↔ lo ≤ n ∧ n ≤ hi := by simp [inB]
theorem inB_no {n lo hi : Int} : inB n lo hi = false ↔ n < lo ∨ hi < n := by
  rw [← Bool.not_eq_true, inB_iff]
  omega

def allB (xs : List Int) (lo hi : Int) : Bool := xs.all (fun x => inB x lo hi)
theorem allB_take (xs : List Int) (lo hi : Int) (k : Nat) (h : k < xs.length) : allB (xs.take (k+1)) lo hi = (allB (xs.take k) lo hi && inB (nth xs k) lo hi) := by
  simp only [allB]
  rw [List.take_succ_eq_append_getElem h, List.all_append]
  simp [nth, h]
theorem allB_false {xs : List Int} {lo hi : Int} {k : Nat} (h : k < xs.length) (h1 : inB (nth xs k) lo hi = false) : allB xs lo hi = false := by
  simp only [allB, List.all_eq_false]
  exact ⟨xs[k], List.getElem_mem h, by simpa [nth, h] using h1⟩
theorem allB_nth {xs : List Int} {lo hi : Int} (h : allB xs lo hi = true) {k : Nat} (hk : k < xs.length) : lo ≤ nth xs k ∧ nth xs k ≤ hi := by
  simp only [allB, List.all_eq_true] at h
  have := inB_iff.1 (h _ (List.getElem_mem hk))
  rwa [← nth_get xs k hk] at this

/-- is it a relation? -/
def relB (n : Int) (xs : List Int) : Bool := inB n 0 10 && decide ((xs.length : Int) = n) && allB xs 0 (2 ^ n.toNat - 1)
theorem relB_iff {n : Int} {xs : List Int} : relB n xs = true ↔ (0 ≤ n ∧ n ≤ 10) ∧ (xs.length : Int) = n ∧ allB xs 0 (2 ^ n.toNat - 1) = true := by
  simp [relB, inB_iff, and_assoc]
theorem pow10 {n : Nat} (h : n ≤ 10) : (1 : Int) ≤ 2 ^ n ∧ (2 : Int) ^ n ≤ 1024 := by
  have h1 : 2 ^ n ≤ 2 ^ 10 := Nat.pow_le_pow_right (by omega) h
  have h2 : 1 ≤ 2 ^ n := Nat.one_le_two_pow
  have h3 : ((2 ^ n : Nat) : Int) = (2 : Int) ^ n := by simp
  omega
theorem full_eq {n : Int} (h0 : 0 ≤ n) (h1 : n ≤ 10) : wrap64 (wrap64 (2 ^ n.toNat) - 1) = 2 ^ n.toNat - 1 := by
  have h2 := pow10 (n := n.toNat) (by omega)
  generalize (2 : Int) ^ n.toNat = p at *
  rw [IntWalk.wrap64_in p ⟨by omega, by omega⟩, IntWalk.wrap64_in _ ⟨by omega, by omega⟩]
structure RelP (n : Int) (xs : List Int) : Prop where
  n0 : 0 ≤ n
  n1 : n ≤ 10
  len : (xs.length : Int) = n
  pos : ∀ k, k < xs.length → 0 ≤ nth xs k
  lt : ∀ k, k < xs.length → nth xs k < 2 ^ xs.length
  small : ∀ k, k < xs.length → nth xs k < 1024
theorem relB_p {n : Int} {xs : List Int} (h : relB n xs = true) : RelP n xs := by
  obtain ⟨⟨h0, h1⟩, h2, h3⟩ := relB_iff.1 h
  have e : n.toNat = xs.length := by omega
  rw [e] at h3
  have hp := pow10 (n := xs.length) (by omega)
  exact ⟨h0, h1, h2, fun k hk => (allB_nth h3 hk).1, fun k hk => by have := (allB_nth h3 hk).2; omega, fun k hk => by have := (allB_nth h3 hk).2; omega⟩

def elemB (i n : Int) : Bool := decide (0 ≤ i) && decide (i < n)
theorem elemB_iff {i n : Int} : elemB i n = true ↔ 0 ≤ i ∧ i < n := by simp [elemB]
theorem elemB_no {i n : Int} : elemB i n = false ↔ i < 0 ∨ n ≤ i := by
  rw [← Bool.not_eq_true, elemB_iff]; omega

theorem wrap64_small (n : Int) (h0 : -9223372036854775808 ≤ n) (h1 : n ≤ 9223372036854775807) : IntKind.i64.wrap n = n := by
  simp only [IntKind.wrap, IntKind.bits, IntKind.signed]
  simp
  omega
theorem i64_wrap (n : Int) : IntKind.i64.wrap n = wrap64 n := IntWalk.i64_left n
theorem ofInt_i64 (a : Nat) (ha : a < 9223372036854775808) : (BitVec.ofInt 64 (a : Int)).toNat = a := by
  simp
  omega
theorem and_nat (a b : Nat) (ha : a < 9223372036854775808) (hb : b < 9223372036854775808) : bits .and .i64 (a : Int) (b : Int) = ((a &&& b : Nat) : Int) := by
  have hx : a &&& b < 2 ^ 63 := Nat.and_lt_two_pow _ (by omega)
  show IntKind.i64.wrap ((BitVec.ofInt 64 (a : Int) &&& BitVec.ofInt 64 (b : Int)).toNat : Int) = _
  rw [BitVec.toNat_and, ofInt_i64 a ha, ofInt_i64 b hb, wrap64_small _ (by omega) (by omega)]
theorem or_nat (a b : Nat) (ha : a < 9223372036854775808) (hb : b < 9223372036854775808) : bits .or .i64 (a : Int) (b : Int) = ((a ||| b : Nat) : Int) := by
  have hx : a ||| b < 2 ^ 63 := Nat.or_lt_two_pow (by omega) (by omega)
  show IntKind.i64.wrap ((BitVec.ofInt 64 (a : Int) ||| BitVec.ofInt 64 (b : Int)).toNat : Int) = _
  rw [BitVec.toNat_or, ofInt_i64 a ha, ofInt_i64 b hb, wrap64_small _ (by omega) (by omega)]
/-- a set without the elements of another one -/
def sub (a b : Nat) : Nat := a ^^^ (a &&& b)
theorem testBit_sub (a b i : Nat) : (sub a b).testBit i = (a.testBit i && !b.testBit i) := by
  simp [sub, Nat.testBit_xor, Nat.testBit_and]
  cases a.testBit i <;> cases b.testBit i <;> rfl
theorem sub_lt {a b n : Nat} (h : a < 2 ^ n) : sub a b < 2 ^ n := by
  unfold sub
  exact Nat.xor_lt_two_pow h (by rw [Nat.and_comm]; exact Nat.and_lt_two_pow _ h)
theorem sub_nat (a b : Nat) (ha : a < 9223372036854775808) (hb : b < 9223372036854775808) : bits .andNot .i64 (a : Int) (b : Int) = ((sub a b : Nat) : Int) := by
  have hs : sub a b < 2 ^ 63 := sub_lt (by omega)
  show IntKind.i64.wrap ((BitVec.ofInt 64 (a : Int) &&& ~~~BitVec.ofInt 64 (b : Int)).toNat : Int) = _
  have e : (BitVec.ofInt 64 (a : Int) &&& ~~~BitVec.ofInt 64 (b : Int)).toNat = sub a b := by
    apply Nat.eq_of_testBit_eq
    intro i
    rw [BitVec.testBit_toNat, BitVec.getLsbD_and, BitVec.getLsbD_not, testBit_sub, ← BitVec.testBit_toNat, ← BitVec.testBit_toNat, ofInt_i64 a ha, ofInt_i64 b hb]
    by_cases hi : i < 64
    · simp [hi]
    · have : a.testBit i = false := Nat.testBit_lt_two_pow (Nat.lt_of_lt_of_le (by omega : a < 2 ^ 64) (Nat.pow_le_pow_right (by omega) (by omega)))
      simp [this]
  rw [e, wrap64_small _ (by omega) (by omega)]
theorem shr_nat (s i : Nat) (hs : s < 9223372036854775808) : (s : Int) / (2 ^ min i 64) = ((s >>> i : Nat) : Int) := by
  rw [Nat.shiftRight_eq_div_pow]
  by_cases h : i ≤ 64
  · rw [Nat.min_eq_left h]
    simp
  · rw [Nat.min_eq_right (by omega)]
    have : 2 ^ 64 ≤ 2 ^ i := Nat.pow_le_pow_right (by omega) (by omega)
    rw [Nat.div_eq_of_lt (by omega)]
    omega
theorem bit_and (s i : Nat) (hs : s < 9223372036854775808) : (bits .and .i64 ((s >>> i : Nat) : Int) 1 == 1) = s.testBit i := by
  have h1 : s >>> i ≤ s := by rw [Nat.shiftRight_eq_div_pow]; exact Nat.div_le_self _ _
  have := and_nat (s >>> i) 1 (by omega) (by omega)
  rw [show ((1 : Nat) : Int) = 1 from rfl] at this
  rw [this, Nat.testBit, Nat.and_one_is_mod, Nat.and_comm, Nat.and_one_is_mod]
  rcases Nat.mod_two_eq_zero_or_one (s >>> i) with h | h <;> simp [h]
theorem bit_mod (s i : Nat) : (((s >>> i : Nat) : Int) % 2 == 1) = s.testBit i := by
  rw [Nat.testBit, Nat.and_comm, Nat.and_one_is_mod]
  rcases Nat.mod_two_eq_zero_or_one (s >>> i) with h | h
  · have h2 : ((s >>> i : Nat) : Int) % 2 = 0 := by omega
    rw [h2, h]; rfl
  · have h2 : ((s >>> i : Nat) : Int) % 2 = 1 := by omega
    rw [h2, h]; rfl
theorem bit_tmod (s i : Nat) : (((s >>> i : Nat) : Int).tmod 2 == 1) = s.testBit i := by
  rw [Int.tmod_eq_emod_of_nonneg (Int.natCast_nonneg _), bit_mod]
/-- is i in the set s? -/
def hasB (s i : Int) : Bool := s.toNat.testBit i.toNat
theorem has_and {s i : Int} (h0 : 0 ≤ s) (h1 : s ≤ 9223372036854775807) (hi : 0 ≤ i) : (bits .and .i64 (s / 2 ^ min i.toNat 64) 1 == 1) = hasB s i := by
  obtain ⟨S, rfl⟩ := Int.eq_ofNat_of_zero_le h0
  rw [shr_nat S _ (by omega), bit_and S _ (by omega)]
  rfl
theorem has_mod {s i : Int} (h0 : 0 ≤ s) (h1 : s ≤ 9223372036854775807) (hi : 0 ≤ i) : ((s / 2 ^ min i.toNat 64).tmod 2 == 1) = hasB s i := by
  obtain ⟨S, rfl⟩ := Int.eq_ofNat_of_zero_le h0
  rw [shr_nat S _ (by omega), bit_tmod S]
  rfl
theorem pow_w {k : Nat} (h : k < 62) : wrap64 (2 ^ k) = ((2 ^ k : Nat) : Int) := by
  have : 2 ^ k ≤ 2 ^ 61 := Nat.pow_le_pow_right (by omega) (by omega)
  rw [show ((2:Int) ^ k) = ((2 ^ k : Nat) : Int) by simp]
  generalize hp : 2 ^ k = p at *
  exact IntWalk.wrap64_in _ ⟨by omega, by omega⟩
theorem or_bit {b k : Nat} (hb : b < 4611686018427387904) (hk : k < 62) : bits .or .i64 (b : Int) (wrap64 (2 ^ k)) = ((b ||| 2 ^ k : Nat) : Int) := by
  rw [pow_w hk]
  have : 2 ^ k ≤ 2 ^ 61 := Nat.pow_le_pow_right (by omega) (by omega)
  exact or_nat _ _ (by omega) (by omega)
theorem or_i {a b : Int} (ha : 0 ≤ a) (ha1 : a < 9223372036854775808) (hb : 0 ≤ b) (hb1 : b < 9223372036854775808) : bits .or .i64 a b = ((a.toNat ||| b.toNat : Nat) : Int) := by
  obtain ⟨A, rfl⟩ := Int.eq_ofNat_of_zero_le ha
  obtain ⟨B, rfl⟩ := Int.eq_ofNat_of_zero_le hb
  exact or_nat A B (by omega) (by omega)
theorem sub_i {a b : Int} (ha : 0 ≤ a) (ha1 : a < 9223372036854775808) (hb : 0 ≤ b) (hb1 : b < 9223372036854775808) : bits .andNot .i64 a b = ((sub a.toNat b.toNat : Nat) : Int) := by
  obtain ⟨A, rfl⟩ := Int.eq_ofNat_of_zero_le ha
  obtain ⟨B, rfl⟩ := Int.eq_ofNat_of_zero_le hb
  exact sub_nat A B (by omega) (by omega)
theorem or_lt {a b n : Nat} (ha : a < 2 ^ n) (hb : b < 2 ^ n) : a ||| b < 2 ^ n := Nat.or_lt_two_pow ha hb
theorem two_lt {k n : Nat} (h : k < n) : 2 ^ k < 2 ^ n := Nat.pow_lt_pow_right (by omega) h
theorem testBit_two (k i : Nat) : (2 ^ k).testBit i = decide (k = i) := Nat.testBit_two_pow

theorem ret_bb {a b c d : Bool} (h : a = b) (h2 : c = d) : Ending.returned (.tuple #[.bool a, .bool c]) = .returned (.tuple #[.bool b, .bool d]) := by rw [h, h2]
theorem ret_ib {a b : Int} {c d : Bool} (h : a = b) (h2 : c = d) : Ending.returned (.tuple #[.int .i64 a, .bool c]) = .returned (.tuple #[.int .i64 b, .bool d]) := by rw [h, h2]

def okE (n : Int) (xs : List Int) (i : Int) : Bool := relB n xs && elemB i n
def okB (n : Int) (xs : List Int) (i j : Int) : Bool := relB n xs && elemB i n && elemB j n
def betF (n : Int) (xs : List Int) (i j : Int) : Bool := okB n xs i j && hasB (nth xs i.toNat) j

/-- the last number, or 0 -/
def lastN (ys : List Int) : Nat := (nth ys (ys.length - 1)).toNat
/-- the stairs that go on a stair by d numbers -/
def stS : Nat → List Int → List (List Int)
  | 0, ys => [ys]
  | d+1, ys => catTo (fun j => stS d (ys ++ [((lastN ys + j : Nat) : Int)])) (ys.length + 1 - lastN ys)
theorem stS_len : ∀ (d : Nat) (ys : List Int), ys.length + d ≤ 6 → (stS d ys).length ≤ 7 ^ d
  | 0, ys, _ => by simp [stS]
  | d+1, ys, h => by
    rw [stS, catTo_len]
    have h1 := sumTo_le (f := fun j => (stS d (ys ++ [((lastN ys + j : Nat) : Int)])).length) (c := 7 ^ d) (k := ys.length + 1 - lastN ys) (fun j _ => stS_len d _ (by simp; omega))
    have h2 := Nat.mul_le_mul (show ys.length + 1 - lastN ys ≤ 7 by omega) (Nat.le_refl (7 ^ d))
    rw [Nat.pow_succ]; omega
theorem seven_le {d : Nat} (h : d ≤ 6) : 7 ^ d ≤ 117649 := Nat.le_trans (Nat.pow_le_pow_right (by omega) h) (by decide)
/-- the stairs that are a stair and one number more -/
def extS (ys : List Int) : List (List Int) := catTo (fun j => [ys ++ [((lastN ys + j : Nat) : Int)]]) (ys.length + 1 - lastN ys)
theorem catTo_flat {f : Nat → List (List Int)} {g : List Int → List (List Int)} : ∀ k, (catTo f k).flatMap g = catTo (fun j => (f j).flatMap g) k
  | 0 => rfl
  | k+1 => by rw [catTo, catTo, List.flatMap_append, catTo_flat k]
theorem stS_succ : ∀ (d : Nat) (ys : List Int), stS (d+1) ys = (stS d ys).flatMap extS
  | 0, ys => by simp [stS, extS]
  | d+1, ys => by
    rw [stS, stS, catTo_flat]
    congr 1
    funext j
    exact stS_succ d _
def stV (i : Nat) (r : List Int) : Bool := r.length == i && (List.range i).all fun j => decide (0 ≤ nth r j) && decide (nth r j ≤ (j : Int))
theorem stS_ok : ∀ n : Fin 7, (stS n.val []).all (stV n.val) = true := by decide +kernel
theorem stS_tot : ∀ n : Fin 7, (stS n.val []).length + totS (stS n.val []) (stS n.val []).length ≤ 1048576 := by decide +kernel
theorem stS_cut : ∀ n : Fin 7, ∀ k : Fin 133, (((stS n.val []).take k.val).flatMap extS).length ≤ 1048576 := by decide +kernel
theorem stS_small : ∀ n : Fin 7, (stS n.val []).length ≤ 132 := by decide +kernel
def ssB (n : Int) : Bool := inB n 0 6
def ssL (n : Int) : List (List Int) := if ssB n then stS n.toNat [] else []
theorem ssL_len (n : Int) : (ssL n).length + totS (ssL n) (ssL n).length ≤ 1048576 := by
  unfold ssL
  split
  · rename_i h
    have := inB_iff.1 h
    exact stS_tot ⟨n.toNat, by omega⟩
  · simp [totS]

/-- the marks k, k + 1, .. -/
def marks (k : Int) (n : Nat) : List Int := (List.range n).map (fun (j : Nat) => k + (j : Int))
theorem marks_len (k : Int) (n : Nat) : (marks k n).length = n := by simp [marks]
theorem marks_nth {k : Int} {n j : Nat} (h : j < n) : nth (marks k n) j = k + j := by
  simp [nth, marks, h]
theorem mark_step (k : Int) (xs : List Int) (j : Nat) (h : j < xs.length) :
    ((marks k j ++ xs.drop j).map (Value.int .i64)).set j (.int .i64 (k + j)) = (marks k (j+1) ++ xs.drop (j+1)).map (Value.int .i64) := by
  apply List.ext_getElem?
  intro i
  rw [List.getElem?_set]
  by_cases hj : j = i
  · subst hj
    rw [if_pos rfl, if_pos (by simp [marks_len]; omega), List.getElem?_map, List.getElem?_append_left (by rw [marks_len]; omega)]
    simp [marks]
  · simp only [hj, if_false, List.getElem?_map, List.getElem?_append, marks_len, List.getElem?_drop]
    by_cases h1 : i < j
    · have h2 : i < j + 1 := by omega
      simp [h1, h2, marks]
    · have h2 : ¬ i < j + 1 := by omega
      have h3 : j + (i - j) = j + 1 + (i - (j + 1)) := by omega
      simp [h1, h2, h3]
theorem own_ne {v u : Value} (h : ∀ c, v.ownBlock = some c → u.ownBlock ≠ some c) : v.ownBlock = none ∨ v.ownBlock ≠ u.ownBlock := by
  cases hv : v.ownBlock with
  | none => exact .inl rfl
  | some c => exact .inr (fun e => h c hv e.symm)

/-- rows that have been made, each in a block of its own -/
structure RowsP (w : World) (B : Nat) (v : Value) (vl : List Value) (xss : List (List Int)) : Prop where
  o : RowsO w B v vl xss
  pair : ∀ j k, j < k → k < xss.length → ∀ c, (valAt vl j).ownBlock = some c → (valAt vl k).ownBlock ≠ some c
theorem RowsP.below {w w' : World} {B B' : Nat} {v : Value} {vl : List Value} {xss : List (List Int)} (h : RowsP w B v vl xss) (hb : Below B' w w') (hB : w.heap.size ≤ B') : RowsP w' B v vl xss := ⟨h.o.below hb hB, h.pair⟩
theorem RowsP.mono {w : World} {B B' : Nat} {v : Value} {vl : List Value} {xss : List (List Int)} (h : RowsP w B v vl xss) (hB : B' ≤ B) : RowsP w B' v vl xss := ⟨h.o.mono hB, h.pair⟩
theorem RowsP.nil (w : World) (B : Nat) : RowsP w B (.slice none 0 0) [] [] := ⟨RowsO.nil w B, fun j k _ hk => by simp at hk⟩
/-- one row in a new outer row -/
theorem RowsO.one {w : World} {B n c : Nat} {a : Option Addr} {r : List Int} (h : OwnI w B (.slice a n c) r) (hB : B ≤ w.heap.size) : RowsO (w.alloc (.cells #[.slice a n c] 26)) B (.slice (some ⟨w.heap.size, 0, none⟩) 1 1) [.slice a n c] [r] := by
  refine ⟨World.ownsRow_lit w #[.slice a n c] 1 hB (by unfold maxLen; omega) rfl, fun k hk => ?_, fun k hk d hd => ?_⟩
  · obtain rfl : k = 0 := by simp at hk; omega
    exact h.alloc _
  · obtain rfl : k = 0 := by simp at hk; omega
    have := (h.lt d hd).2
    simp only [Value.ownBlock, ne_eq, Option.some.injEq]
    omega
theorem RowsP.one {w : World} {B n c : Nat} {a : Option Addr} {r : List Int} (h : OwnI w B (.slice a n c) r) (hB : B ≤ w.heap.size) : RowsP (w.alloc (.cells #[.slice a n c] 26)) B (.slice (some ⟨w.heap.size, 0, none⟩) 1 1) [.slice a n c] [r] :=
  ⟨RowsO.one h hB, fun j k h1 h2 => by simp at h2; omega⟩
theorem RowsP.cat {w w' : World} {B C : Nat} {v v2 v' : Value} {vl vl2 : List Value} {xss yss : List (List Int)} (h : RowsP w B v vl xss) (h2 : RowsP w C v2 vl2 yss) (hBC : B ≤ C) (hvC : ∀ c, v.ownBlock = some c → c < C) (hrC : ∀ k, k < xss.length → ∀ c, (valAt vl k).ownBlock = some c → c < C)
    (ho : w'.ownsRow B 26 1 v' (xss.length + yss.length) (vl ++ vl2)) (hg : w.grownBy w' v.ownBlock) (hv' : v'.ownBlock = v.ownBlock ∨ v'.ownBlock = some w.heap.size) : RowsP w' B v' (vl ++ vl2) (xss ++ yss) := by
  refine ⟨h.o.cat h2.o hBC hvC ho hg hv', fun j k hjk hk c hc => ?_⟩
  have hl := h.o.vlen
  have hl2 := h2.o.vlen
  rw [List.length_append] at hk
  have e1 : ∀ k, k < xss.length → valAt (vl ++ vl2) k = valAt vl k := fun k hk => by rw [valAt, valAt, List.getD_eq_getElem?_getD, List.getD_eq_getElem?_getD, List.getElem?_append_left (by omega)]
  have e2 : ∀ k, xss.length ≤ k → valAt (vl ++ vl2) k = valAt vl2 (k - xss.length) := fun k hk => by rw [valAt, valAt, List.getD_eq_getElem?_getD, List.getD_eq_getElem?_getD, List.getElem?_append_right (by omega), hl]
  by_cases hk2 : k < xss.length
  · rw [e1 k hk2]
    rw [e1 j (by omega)] at hc
    exact h.pair j k hjk hk2 c hc
  · rw [e2 k (by omega)]
    by_cases hj2 : j < xss.length
    · rw [e1 j hj2] at hc
      have h3 := hrC j hj2 c hc
      intro h4
      have := ((h2.o.row (k - xss.length) (by omega)).lt c h4).1
      omega
    · rw [e2 j (by omega)] at hc
      exact h2.pair (j - xss.length) (k - xss.length) (by omega) (by omega) c hc
theorem RowsP.blk {w : World} {B : Nat} {v : Value} {vl : List Value} {xss : List (List Int)} (h : RowsP w B v vl xss) : (∀ c, v.ownBlock = some c → c < w.heap.size) ∧ ∀ k, k < xss.length → ∀ c, (valAt vl k).ownBlock = some c → c < w.heap.size :=
  ⟨fun c e => (h.o.lt c e).2, fun k hk c e => ((h.o.row k hk).lt c e).2⟩
/-- what the rows hold when they have been marked -/
def mkS (xss : List (List Int)) (k : Int) : List (List Int) := (List.range xss.length).map fun j => marks (k + ((totS xss j : Nat) : Int)) (rowL xss j).length
theorem mkS_len (xss : List (List Int)) (k : Int) : (mkS xss k).length = xss.length := by simp [mkS]
theorem mkS_row {xss : List (List Int)} {k : Int} {j : Nat} (h : j < xss.length) : rowL (mkS xss k) j = marks (k + ((totS xss j : Nat) : Int)) (rowL xss j).length := by
  simp [mkS, rowL, h]

theorem RowsP.cut {w : World} {B : Nat} {v : Value} {vl : List Value} {xss : List (List Int)} (h : RowsP w B v vl xss) {U : Nat} (hU : w.heap.size ≤ U) : (∀ c, v.ownBlock = some c → B ≤ c ∧ c < U) ∧ ∀ k, k < xss.length → ∀ c, (valAt vl k).ownBlock = some c → B ≤ c ∧ c < U :=
  ⟨fun c e => by have := h.o.lt c e; omega, fun k hk c e => by have := (h.o.row k hk).lt c e; omega⟩
theorem RowsP.touch {lo hi : Nat} {w w' : World} {B : Nat} {v : Value} {vl : List Value} {xss : List (List Int)} (h : RowsP w B v vl xss) (ht : TouchS lo hi w w') (h1 : ∀ c, v.ownBlock = some c → c < lo ∨ hi ≤ c) (h2 : ∀ k, k < xss.length → ∀ c, (valAt vl k).ownBlock = some c → c < lo ∨ hi ≤ c) : RowsP w' B v vl xss := by
  refine ⟨⟨⟨h.o.own.1, ?_⟩, fun k hk => (h.o.row k hk).touch ht (h2 k hk), h.o.apart⟩, h.pair⟩
  rcases h.o.own.2 with hn | ⟨g, cap, cur, e, hb', hg, rest⟩
  · exact .inl hn
  · refine .inr ⟨g, cap, cur, e, hb', ?_, rest⟩
    rw [ht.block g (Array.getElem?_eq_some_iff.1 hg).1 (h1 g (by rw [e]; rfl))]
    exact hg
theorem RowsP.kept {w w' : World} {B : Nat} {v : Value} {vl : List Value} {xss : List (List Int)} {row : Option Nat} (h : RowsP w B v vl xss) (hg : w.grownBy w' row) (h1 : ∀ c, v.ownBlock = some c → row ≠ some c) (h2 : ∀ k, k < xss.length → ∀ c, (valAt vl k).ownBlock = some c → row ≠ some c) : RowsP w' B v vl xss := by
  have e : ∀ u : Value, (∀ c, u.ownBlock = some c → row ≠ some c) → u.ownBlock = none ∨ u.ownBlock ≠ row := fun u hu => by
    cases hv : u.ownBlock with
    | none => exact .inl rfl
    | some c => exact .inr (fun e => hu c hv e.symm)
  exact ⟨⟨World.ownsRow.kept h.o.own hg (e v h1), fun k hk => (h.o.row k hk).kept hg (e _ (h2 k hk)), h.o.apart⟩, h.pair⟩
theorem OwnS.mono {w : World} {B B' g : Nat} {vl : List Value} {xss : List (List Int)} (h : OwnS w B g vl xss) (hB : B' ≤ B) : OwnS w B' g vl xss := ⟨Nat.le_trans hB h.lo, h.hi, h.max, h.cell, h.row, h.apart⟩
theorem TouchS.of_below {B lo hi : Nat} {w w1 w2 : World} (hb : Below w.heap.size w w1) (h : TouchS lo hi w1 w2) : TouchS lo hi w w2 :=
  ⟨h.os.trans hb.os, h.tape.trans hb.tape, h.output.trans hb.output, Nat.le_trans hb.size h.size, fun k hk hn => (h.block k (Nat.lt_of_lt_of_le hk hb.size) hn).trans (hb.block k hk)⟩

theorem OwnI.capLe {w : World} {B n cap : Nat} {a : Option Addr} {xs : List Int} (h : OwnI w B (.slice a n cap) xs) : n ≤ cap := by
  rcases h.2 with ⟨e, _⟩ | ⟨g, cap', cur, e, _, _, hc, _⟩
  · simp only [Value.slice.injEq] at e
    omega
  · simp only [Value.slice.injEq] at e
    omega
theorem Rd.take {w : World} {a : Option Addr} {xs : List Int} (h : Rd w a xs) (k : Nat) : Rd w a (xs.take k) :=
  ⟨Nat.le_trans (by rw [List.length_take]; exact Nat.min_le_right _ _) h.len, fun j hj => by
    have hj' : j < xs.length ∧ j < k := by rw [List.length_take] at hj; omega
    obtain ⟨b, off, e, hl, hc⟩ := h.cell j hj'.1
    refine ⟨b, off, e, hl, hc.trans ?_⟩
    simp [nth, List.getD_eq_getElem?_getD, List.getElem?_take, hj'.2]⟩

/-- rows that may be sliced: none is longer than its capacity -/
structure RdC (w : World) (a : Option Addr) (xss : List (List Int)) : Prop where
  rd : RdS w a xss
  cap : ∀ k, k < xss.length → ∃ b off a' cap', a = some ⟨b, off, none⟩ ∧ w.cell? ⟨b, off + k, none⟩ = some (.slice a' (rowL xss k).length cap') ∧ (rowL xss k).length ≤ cap'
theorem RdC.below {w w' : World} {a : Option Addr} {xss : List (List Int)} (h : RdC w a xss) (hb : Below w.heap.size w w') : RdC w' a xss :=
  ⟨h.rd.below hb, fun k hk => by
    obtain ⟨b, off, a', cap', e, hc, hl⟩ := h.cap k hk
    exact ⟨b, off, a', cap', e, (hb.cell (World.block_lt_of_cell? _ _ hc)).trans hc, hl⟩⟩
theorem RdC.row {w : World} {a : Option Addr} {xss : List (List Int)} (h : RdC w a xss) {k : Nat} (hk : k < xss.length) : ∃ b off a' cap', a = some ⟨b, off, none⟩ ∧ b < w.heap.size ∧ w.cell? ⟨b, off + k, none⟩ = some (.slice a' (rowL xss k).length cap') ∧ Rd w a' (rowL xss k) ∧ (rowL xss k).length ≤ cap' := by
  obtain ⟨b, off, a', cap', e, hl, hc, hr⟩ := h.rd.row k hk
  obtain ⟨b2, off2, a2, cap2, e2, hc2, hl2⟩ := h.cap k hk
  rw [e] at e2
  simp only [Option.some.injEq, Addr.mk.injEq, and_true] at e2
  obtain ⟨rfl, rfl⟩ := e2
  rw [hc] at hc2
  simp only [Option.some.injEq, Value.slice.injEq, true_and] at hc2
  exact ⟨b, off, a', cap', e, hl, hc, hr, by omega⟩
theorem OwnS.rdC {w : World} {B g : Nat} {vl : List Value} {xss : List (List Int)} (h : OwnS w B g vl xss) : RdC w (some ⟨g, 0, none⟩) xss :=
  ⟨h.rd, fun k hk => by
    have h1 := h.row k hk
    have h2 := h.cell k hk
    obtain ⟨a', cap', e⟩ := h1.form
    rw [e] at h1 h2
    exact ⟨g, 0, a', cap', rfl, by rw [Nat.zero_add]; exact h2, h1.capLe⟩⟩
theorem RowsP.rdC {w : World} {B n cap : Nat} {a : Option Addr} {vl : List Value} {xss : List (List Int)} (h : RowsP w B (.slice a n cap) vl xss) : RdC w a xss := by
  have hvl := h.o.vlen
  refine ⟨h.o.rd, fun k hk => ?_⟩
  obtain ⟨b, off, a', cap', e, hl, hc, hr⟩ := h.o.rd.row k hk
  refine ⟨b, off, a', cap', e, hc, ?_⟩
  have h2 := h.o.row k hk
  rcases h.o.own.2 with ⟨e3, h0⟩ | ⟨g, cap3, cur, e3, hb, hg, hn, hm, hs, ht⟩
  · omega
  · simp only [Value.slice.injEq] at e3
    obtain ⟨rfl, rfl, rfl⟩ := e3
    simp only [Option.some.injEq, Addr.mk.injEq, and_true] at e
    obtain ⟨rfl, rfl⟩ := e
    have h1 := World.ownsRow.cellAt h.o.own k (by omega)
    rw [Nat.zero_add] at hc
    rw [hc, valAt_get (by omega)] at h1
    simp only [Option.some.injEq] at h1
    rw [← h1] at h2
    exact h2.capLe

/-- a block that begins with this cell -/
def Box1 (w : World) (b : Nat) (u : Value) : Prop := b < w.heap.size ∧ w.cell? ⟨b, 0, none⟩ = some u
theorem Box1.below {w w' : World} {b : Nat} {u : Value} (h : Box1 w b u) (hb : Below w.heap.size w w') : Box1 w' b u :=
  ⟨Nat.lt_of_lt_of_le h.1 hb.size, (hb.cell (p := ⟨b, 0, none⟩) h.1).trans h.2⟩
theorem Box1.new (w : World) (u : Value) (t : TypeId) : Box1 (w.alloc (.cells #[u] t)) w.heap.size u := ⟨by simp, by simp⟩
theorem Box1.kept {w w' : World} {b : Nat} {u : Value} {row : Option Nat} (h : Box1 w b u) (hg : w.grownBy w' row) (hne : some b ≠ row) : Box1 w' b u :=
  ⟨Nat.lt_of_lt_of_le h.1 hg.size, hg.cell h.2 hne⟩
theorem Box1.touch {lo hi : Nat} {w w' : World} {b : Nat} {u : Value} (h : Box1 w b u) (ht : TouchS lo hi w w') (hb : b < lo ∨ hi ≤ b) : Box1 w' b u :=
  ⟨Nat.lt_of_lt_of_le h.1 ht.size, (World.cell?_of_block (w := w) (a := ⟨b, 0, none⟩) (ht.block b h.1 hb)).trans h.2⟩
/-- a block that begins with this cell, which may be written -/
def Var1 (w : World) (b : Nat) (u : Value) : Prop := Box1 w b u ∧ w.frozen? ⟨b, 0, none⟩ = false
theorem Var1.new (w : World) (u : Value) (t : TypeId) : Var1 (w.alloc (.cells #[u] t)) w.heap.size u := ⟨Box1.new w u t, by simp⟩
theorem Var1.below {w w' : World} {b : Nat} {u : Value} (h : Var1 w b u) (hb : Below w.heap.size w w') : Var1 w' b u :=
  ⟨h.1.below hb, (hb.frozen (p := ⟨b, 0, none⟩) h.1.1).trans h.2⟩
theorem Var1.alloc {w : World} {b : Nat} {u : Value} (h : Var1 w b u) (o : Obj) : Var1 (w.alloc o) b u := h.below ((Below.refl _ _).alloc (Nat.le_refl _) o)
theorem Var1.kept {w w' : World} {b : Nat} {u : Value} {row : Option Nat} (h : Var1 w b u) (hg : w.grownBy w' row) (hne : some b ≠ row) : Var1 w' b u :=
  ⟨h.1.kept hg hne, (World.frozen?_of_block (w := w) (a := ⟨b, 0, none⟩) (hg.block b h.1.1 hne)).trans h.2⟩
theorem Var1.set {w : World} {b : Nat} {u : Value} (h : Var1 w b u) (x : Value) : Var1 (w.setCell ⟨b, 0, none⟩ x) b x :=
  ⟨⟨by simpa using h.1.1, World.cell?_setCell_same _ _ _ h.1.2⟩, by simpa using h.2⟩
theorem Var1.other {w : World} {b : Nat} {u : Value} (h : Var1 w b u) {p : Addr} (x : Value) (hne : b ≠ p.block) : Var1 (w.setCell p x) b u :=
  h.kept (grown_set w p x) (by simpa using hne)

theorem toMx_any (a : Option Addr) (xss : List (List Int)) (cap : Nat) (w : World) (hx : RdS w a xss) (hn : xss.length + totS xss xss.length ≤ 1048576) :
    Calls Try.prog 11 #[.agg #[.slice a xss.length cap]] w fun e w' => ∃ g cap' vl, e = .returned (.agg #[.slice (some ⟨g, 0, none⟩) xss.length cap']) ∧ OwnS w' w.heap.size g vl xss ∧ Below w.heap.size w w' := by
  have hlen := hx.len
  go_enter Try.func11, Try.ntmps11
  obtain ⟨W0, hW0⟩ : ∃ x : World, x = ((w.alloc (.cells #[.slice a xss.length cap] 24)).alloc (.cells #[.slice none 0 0] 29)).alloc (.cells #[.slice none 0 0] 29) := ⟨_, rfl⟩
  have b0 : Below w.heap.size w W0 := by rw [hW0]; exact (by repeat (first | exact Below.refl _ _ | assumption | refine Below.alloc ?_ (by first | exact Nat.le_refl _ | (simp only [World.size_alloc, World.size_setCell, World.size_drew]; omega) | omega) _ | refine Below.setCell ?_ (by first | exact Nat.le_refl _ | (simp only [World.size_alloc, World.size_setCell, World.size_drew]; omega) | omega) _ | refine Below.drew ?_))
  have v1 := (Var1.new (w.alloc (.cells #[.slice a xss.length cap] 24)) (.slice none 0 0) 29).alloc (.cells #[.slice none 0 0] 29)
  have v2 := Var1.new ((w.alloc (.cells #[.slice a xss.length cap] 24)).alloc (.cells #[.slice none 0 0] 29)) (.slice none 0 0) 29
  rw [← hW0] at v1 v2
  simp only [World.size_alloc] at v1 v2
  have ⟨⟨_, c1⟩, f1⟩ := v1
  have ⟨⟨_, c2⟩, f2⟩ := v2
  have hz0 : W0.heap.size = w.heap.size + 3 := by rw [hW0]; simp
  have HCALL := Lib.hid (toIntSS_any a xss cap W0 (hx.below b0) hn)
  have HW := Lib.hid hW0
  rw [hW0] at HCALL
  clear hW0
  go_wp2_with fail
  refine HCALL.out.mono ?_
  rintro e w1 ⟨g, cap', vl, rfl, ho, hb⟩
  rw [← HW.out] at ho hb
  have c1' := (hb.cell (p := ⟨w.heap.size + 1, 0, none⟩) (show w.heap.size + 1 < W0.heap.size by omega)).trans c1
  have c2' := (hb.cell (p := ⟨w.heap.size + 2, 0, none⟩) (show w.heap.size + 2 < W0.heap.size by omega)).trans c2
  have f1' := (hb.frozen (p := ⟨w.heap.size + 1, 0, none⟩) (show w.heap.size + 1 < W0.heap.size by omega)).trans f1
  have f2' := (hb.frozen (p := ⟨w.heap.size + 2, 0, none⟩) (show w.heap.size + 2 < W0.heap.size by omega)).trans f2
  have b1 : Below w.heap.size w w1 := b0.trans (hb.mono b0.size)
  have hs1 : w.heap.size + 3 ≤ w1.heap.size := by have := hb.size; omega
  have HO := Lib.hid ho
  clear hb c1 c2 f1 f2 v1 v2 ho HCALL HW b0
  go_wp2_with fail
  have b2 := (b1.setCell (p := ⟨w.heap.size + 2, 0, none⟩) (show w.heap.size ≤ w.heap.size + 2 by omega) (.slice (some ⟨g, 0, none⟩) xss.length cap')).setCell (p := ⟨w.heap.size + 1, 0, none⟩) (show w.heap.size ≤ w.heap.size + 1 by omega) (.slice (some ⟨g, 0, none⟩) xss.length cap')
  have hq : ((w1.setCell ⟨w.heap.size + 2, 0, none⟩ (.slice (some ⟨g, 0, none⟩) xss.length cap')).setCell ⟨w.heap.size + 1, 0, none⟩ (.slice (some ⟨g, 0, none⟩) xss.length cap')).cell? ⟨w.heap.size + 1, 0, none⟩ = some (.slice (some ⟨g, 0, none⟩) xss.length cap') :=
    World.cell?_setCell_same _ _ _ (u := .slice none 0 0) (by rw [World.cell?_setCell_other _ _ _ _ (by simp)]; exact c1')
  refine bodyPost_ret (v := .agg #[.slice (some ⟨g, 0, none⟩) xss.length cap']) (by simp [results, Try.results11, go_sem, hq]) rfl ?_
  have hset : ∀ (p : Addr) (u : Value) (w9 : World), p.block < W0.heap.size → OwnS w9 W0.heap.size g vl xss → OwnS (w9.setCell p u) W0.heap.size g vl xss := fun p u w9 e h =>
    ⟨h.lo, by simpa using h.hi, h.max, fun k hk => (World.cell?_setCell_other _ _ _ _ (by intro e2; have := congrArg Addr.block e2; simp at this; have := h.lo; omega)).trans (h.cell k hk), fun k hk => (h.row k hk).setBelow (by have := h.lo; omega) u, h.apart⟩
  exact ⟨g, cap', vl, rfl, (hset _ _ _ (by simp; omega) (hset _ _ _ (by simp; omega) HO.out)).mono (by omega), b2⟩

def eqL (xs ys : List Int) : Bool := decide (xs = ys)
theorem eqIntS_any (a b : Option Addr) (xs ys : List Int) (ca cb : Nat) (w : World) (hx : Rd w a xs) (hy : Rd w b ys) :
    Calls Try.prog 13 #[.slice a xs.length ca, .slice b ys.length cb] w fun e w' => e = .returned (.bool (eqL xs ys)) ∧ Below w.heap.size w w' := by
  have hlx := hx.len
  have hly := hy.len
  by_cases hl : xs.length = ys.length
  · have hl' : ((xs.length : Int) != (ys.length : Int)) = false := by simp [hl]
    go_enter Try.func13, Try.ntmps13
    have HL := Lib.hid hl
    clear hl
    go_wp2_with fail
    go_loopw [5] (fun i wr => ∃ k : Nat, k ≤ xs.length ∧ i = .int .i64 k ∧ xs.take k = ys.take k ∧ Below w.heap.size w wr) (fun i _ => xs.length - (intOf i).toNat)
    case atStart => exact ⟨0, Nat.zero_le _, rfl, rfl, Below.refl _ _⟩
    case round =>
      obtain ⟨k, hk, rfl, htk, hb⟩ := hrel
      have HT := Lib.hid htk
      clear htk
      by_cases hlt : k < xs.length
      · have hlt' : k < ys.length := by rw [← HL.out]; exact hlt
        obtain ⟨b1, o1, rfl, hb1, hc1⟩ := (hx.below hb).cell k hlt
        obtain ⟨b2, o2, rfl, hb2, hc2⟩ := (hy.below hb).cell k hlt'
        by_cases he : nth xs k = nth ys k
        · have he' : (nth xs k != nth ys k) = false := by simp [he]
          have HE := Lib.hid he
          clear he
          go_wp2_with fail
          go_quiet (fail)
          go_wp2_with fail
          go_roundw
          case rel =>
            refine ⟨k + 1, by omega, by go_num, ?_, by exact hb.trans (Joins.below_draws _ _ _)⟩
            rw [List.take_succ_eq_append_getElem hlt, List.take_succ_eq_append_getElem hlt', HT.out, ← nth_get, ← nth_get, HE.out]
          case measure => simp [intOf]; omega
        · have he' : (nth xs k != nth ys k) = true := by simp [he]
          have hne : eqL xs ys = false := by
            simp only [eqL, decide_eq_false_iff_not]
            intro e
            subst e
            exact he rfl
          have HN := Lib.hid hne
          clear he hne
          go_wp2_with fail
          go_quiet (fail)
          go_wp2_with fail
          go_ret
          exact ⟨ret_bool HN.out.symm, hb.trans (Joins.below_draws _ _ _)⟩
      · go_wp2_with fail
        go_ret
        refine ⟨ret_bool ?_, hb⟩
        have h1 := HT.out
        rw [List.take_of_length_le (by omega), List.take_of_length_le (by rw [← HL.out]; omega)] at h1
        simp [eqL, h1]
  · have hl' : ((xs.length : Int) != (ys.length : Int)) = true := by simp; omega
    have hne : eqL xs ys = false := by
      simp only [eqL, decide_eq_false_iff_not]
      intro e
      exact hl (by rw [e])
    have HN := Lib.hid hne
    clear hl hne
    go_enter Try.func13, Try.ntmps13
    go_wp2_with fail
    go_ret
    exact ⟨ret_bool HN.out.symm, Below.refl _ _⟩
theorem eqL_self (xs : List Int) : eqL xs xs = true := by simp [eqL]

theorem eqIntSS_same (a b : Option Addr) (xss : List (List Int)) (ca cb : Nat) (w : World) (hx : RdS w a xss) (hy : RdS w b xss) :
    Calls Try.prog 35 #[.slice a xss.length ca, .slice b xss.length cb] w fun e w' => e = .returned (.bool true) ∧ Below w.heap.size w w' := by
  have hlen := hx.len
  go_enter Try.func35, Try.ntmps35
  go_wp2_with fail
  go_loopw [5] (fun i wr => ∃ k : Nat, k ≤ xss.length ∧ i = .int .i64 k ∧ Below w.heap.size w wr) (fun i _ => xss.length - (intOf i).toNat)
  case atStart => exact ⟨0, Nat.zero_le _, rfl, Below.refl _ _⟩
  case round =>
    obtain ⟨k, hk, rfl, hb⟩ := hrel
    by_cases hlt : k < xss.length
    · obtain ⟨b1, off1, a1, cap1, rfl, hbl1, hc1, hr1⟩ := (hx.below hb).row k hlt
      obtain ⟨b2, off2, a2, cap2, rfl, hbl2, hc2, hr2⟩ := (hy.below hb).row k hlt
      have k1 : (k : Int) < (xss.length : Int) := by omega
      have HE : Hid (eqL (rowL xss k) (rowL xss k) = true) := eqL_self _
      go_wp2_with fail
      go_region_held3 (fun w' => w'.cell? ⟨b1, off1 + k, none⟩ = some (.slice a1 (rowL xss k).length cap1) ∧ w'.cell? ⟨b2, off2 + k, none⟩ = some (.slice a2 (rowL xss k).length cap2))
        (first | exact ⟨(ht3.cell (p := ⟨b1, off1 + k, none⟩) hbl1).trans hc1, (ht3.cell (p := ⟨b2, off2 + k, none⟩) hbl2).trans hc2⟩ | go_keep)
        (first | (go_at_call 13; refine (eqIntS_any _ _ _ _ _ _ _ (hr1.below (Joins.below_draws _ _ _)) (hr2.below (Joins.below_draws _ _ _))).mono ?_; rw [HE.out]; rintro e w3 ⟨rfl, hb3⟩; have ht3 : Below wr.heap.size wr w3 := (Joins.below_draws _ _ _).trans hb3))
      have bw3 := hb.trans (ht3.mono hb.size)
      clear hb3 ht3 hc1 hc2
      go_wp2_with fail
      go_roundw
      case rel => exact ⟨k + 1, by omega, by go_num, bw3⟩
      case measure => simp [intOf]; omega
    · obtain rfl : k = xss.length := by omega
      go_wp2_with fail
      go_ret
      exact ⟨rfl, hb⟩

theorem eqMx_any (a b : Option Addr) (xss : List (List Int)) (ca cb : Nat) (w : World) (hx : RdS w a xss) (hy : RdS w b xss) :
    Calls Try.prog 14 #[.agg #[.slice a xss.length ca], .agg #[.slice b xss.length cb]] w fun e w' => e = .returned (.bool true) ∧ Below w.heap.size w w' := by
  have hlen := hx.len
  go_enter Try.func14, Try.ntmps14
  go_wp2_with fail
  refine (eqIntSS_same _ _ _ _ _ _ (hx.below (by repeat (first | exact Below.refl _ _ | assumption | refine Below.alloc ?_ (by first | exact Nat.le_refl _ | (simp only [World.size_alloc, World.size_setCell, World.size_drew]; omega) | omega) _ | refine Below.setCell ?_ (by first | exact Nat.le_refl _ | (simp only [World.size_alloc, World.size_setCell, World.size_drew]; omega) | omega) _ | refine Below.drew ?_))) (hy.below (by repeat (first | exact Below.refl _ _ | assumption | refine Below.alloc ?_ (by first | exact Nat.le_refl _ | (simp only [World.size_alloc, World.size_setCell, World.size_drew]; omega) | omega) _ | refine Below.setCell ?_ (by first | exact Nat.le_refl _ | (simp only [World.size_alloc, World.size_setCell, World.size_drew]; omega) | omega) _ | refine Below.drew ?_)))).mono ?_
  rintro e w1 ⟨rfl, hb⟩
  go_wp2_with fail
  go_ret
  exact ⟨rfl, Below.trans (by repeat (first | exact Below.refl _ _ | assumption | refine Below.alloc ?_ (by first | exact Nat.le_refl _ | (simp only [World.size_alloc, World.size_setCell, World.size_drew]; omega) | omega) _ | refine Below.setCell ?_ (by first | exact Nat.le_refl _ | (simp only [World.size_alloc, World.size_setCell, World.size_drew]; omega) | omega) _ | refine Below.drew ?_)) (hb.mono (by first | (simp only [World.size_alloc, World.size_setCell, World.size_drew]; omega) | omega))⟩

/-- the list of f 0, .., f (k - 1) -/
def fmap (f : Nat → Int) (k : Nat) : List Int := (List.range k).map f
theorem fmap_len (f : Nat → Int) (k : Nat) : (fmap f k).length = k := by simp [fmap]
theorem fmap_nth (f : Nat → Int) {k i : Nat} (h : i < k) : nth (fmap f k) i = f i := by simp [nth, fmap, h]
theorem fmap_succ (f : Nat → Int) (k : Nat) : fmap f (k+1) = fmap f k ++ [f k] := by simp [fmap, List.range_succ]
/-- one store more into a row that was made -/
theorem fill_step (f : Nat → Int) (m k : Nat) (h : k < m) :
    ((fmap f k ++ List.replicate (m - k) (0:Int)).map (Value.int .i64)).set k (.int .i64 (f k)) = (fmap f (k+1) ++ List.replicate (m - (k+1)) (0:Int)).map (Value.int .i64) := by
  apply List.ext_getElem?
  intro j
  rw [List.getElem?_set]
  by_cases hj : k = j
  · subst hj
    rw [if_pos rfl, if_pos (by simp [fmap_len]; omega), List.getElem?_map, List.getElem?_append_left (by rw [fmap_len]; omega)]
    simp [fmap]
  · simp only [hj, if_false, List.getElem?_map, List.getElem?_append, fmap_len, List.getElem?_replicate]
    by_cases h1 : j < k
    · have h2 : j < k + 1 := by omega
      simp [h1, h2, fmap]
    · have h2 : ¬ j < k + 1 := by omega
      have h3 : j - k < m - k ↔ j - (k+1) < m - (k+1) := by omega
      simp [h1, h2, h3]
theorem fill_end (f : Nat → Int) (m : Nat) : fmap f m ++ List.replicate (m - m) (0:Int) = fmap f m := by simp
/-- the row that a make of m integers has made -/
theorem made_ints {w1 : World} {B : Nat} {v : Value} {m : Nat} (f : Nat → Int) (h : w1.ownsRow B 3 1 v m (madeCells (Value.int .i64 0).cells (m * 1)).toList) :
    w1.ownsRow B 3 1 v m ((fmap f 0 ++ List.replicate (m - 0) (0:Int)).map (Value.int .i64)) := by
  simpa [Value.cells, toList_madeCells_one, fmap] using h

/-- the greatest of the first k numbers, or -1 -/
def mostTo (l : List Int) : Nat → Int
  | 0 => -1
  | k+1 => if nth l k < mostTo l k then mostTo l k else nth l k
theorem mostTo_ge (l : List Int) : ∀ k j, j < k → nth l j ≤ mostTo l k
  | 0, j, hj => by omega
  | k+1, j, hj => by
    simp only [mostTo]
    by_cases e : j = k
    · subst e; split <;> omega
    · have := mostTo_ge l k j (by omega)
      split <;> omega
theorem mostTo_le {l : List Int} {x : Int} (hx : -1 ≤ x) : ∀ k, (∀ j, j < k → nth l j ≤ x) → mostTo l k ≤ x
  | 0, _ => hx
  | k+1, h => by
    have h1 := mostTo_le hx k (fun j hj => h j (by omega))
    have h2 := h k (by omega)
    simp only [mostTo]
    split <;> omega

/-- the sum of the first k numbers -/
def totI (xs : List Int) : Nat → Int
  | 0 => 0
  | k+1 => totI xs k + nth xs k
def totR (xs : List Int) : Int := totI xs xs.length
theorem totI_nn {xs : List Int} : ∀ {k : Nat}, (∀ j, j < k → 0 ≤ nth xs j) → 0 ≤ totI xs k
  | 0, _ => by simp [totI]
  | k+1, h => by
    have h1 := totI_nn (xs := xs) (k := k) (fun j hj => h j (by omega))
    have h2 := h k (by omega)
    rw [totI]; omega
theorem totI_mono {xs : List Int} {j : Nat} : ∀ {k : Nat}, j ≤ k → (∀ i, i < k → 0 ≤ nth xs i) → totI xs j ≤ totI xs k
  | 0, h, _ => by obtain rfl : j = 0 := by omega
                  exact Int.le_refl _
  | k+1, h, hn => by
    by_cases e : j = k + 1
    · rw [e]; exact Int.le_refl _
    · have h1 := totI_mono (xs := xs) (j := j) (k := k) (by omega) (fun i hi => hn i (by omega))
      have h2 := hn k (by omega)
      rw [totI]; omega
theorem totI_at {xs : List Int} {j k : Nat} (hj : j < k) (hn : ∀ i, i < k → 0 ≤ nth xs i) : nth xs j ≤ totI xs k := by
  have h1 := totI_mono (xs := xs) (j := j + 1) (k := k) (by omega) hn
  have h2 := totI_nn (xs := xs) (k := j) (fun i hi => hn i (by omega))
  rw [totI] at h1; omega
theorem totI_zero {xs : List Int} : ∀ {k : Nat}, (∀ j, j < k → nth xs j = 0) → totI xs k = 0
  | 0, _ => rfl
  | k+1, h => by rw [totI, totI_zero (fun j hj => h j (by omega)), h k (by omega)]; rfl
/-- the sum of the first k rows -/
def matS (xss : List (List Int)) : Nat → Int
  | 0 => 0
  | k+1 => matS xss k + totR (rowL xss k)
theorem matS_nn {xss : List (List Int)} : ∀ {k : Nat}, (∀ j, j < k → 0 ≤ totR (rowL xss j)) → 0 ≤ matS xss k
  | 0, _ => by simp [matS]
  | k+1, h => by
    have h1 := matS_nn (xss := xss) (k := k) (fun j hj => h j (by omega))
    have h2 := h k (by omega)
    rw [matS]; omega
theorem matS_mono {xss : List (List Int)} {j : Nat} : ∀ {k : Nat}, j ≤ k → (∀ i, i < k → 0 ≤ totR (rowL xss i)) → matS xss j ≤ matS xss k
  | 0, h, _ => by obtain rfl : j = 0 := by omega
                  exact Int.le_refl _
  | k+1, h, hn => by
    by_cases e : j = k + 1
    · rw [e]; exact Int.le_refl _
    · have h1 := matS_mono (xss := xss) (j := j) (k := k) (by omega) (fun i hi => hn i (by omega))
      have h2 := hn k (by omega)
      rw [matS]; omega
/-- no number of a list is negative -/
def nnB (xs : List Int) : Bool := (List.range xs.length).all fun j => decide (0 ≤ nth xs j)
theorem nnB_iff {xs : List Int} : nnB xs = true ↔ ∀ j, j < xs.length → 0 ≤ nth xs j := by simp [nnB]
/-- may lists be the rows (or the columns) of a matrix? -/
def adB (xss : List (List Int)) : Bool := ((List.range xss.length).all fun k => nnB (rowL xss k) && decide (0 < totR (rowL xss k))) && decide (matS xss xss.length ≤ 12)
theorem adB_iff {xss : List (List Int)} : adB xss = true ↔ (∀ k, k < xss.length → (∀ j, j < (rowL xss k).length → 0 ≤ nth (rowL xss k) j) ∧ 0 < totR (rowL xss k)) ∧ matS xss xss.length ≤ 12 := by
  simp only [adB, Bool.and_eq_true, List.all_eq_true, List.mem_range, decide_eq_true_eq, nnB_iff]
theorem matS_ge {xss : List (List Int)} : ∀ {k : Nat}, (∀ j, j < k → 0 < totR (rowL xss j)) → (k : Int) ≤ matS xss k
  | 0, _ => by simp [matS]
  | k+1, h => by
    have h1 := matS_ge (xss := xss) (k := k) (fun j hj => h j (by omega))
    have h2 := h k (by omega)
    rw [matS]; omega
theorem adB_small {xss : List (List Int)} (h : adB xss = true) : xss.length ≤ 12 := by
  have ⟨h1, h2⟩ := adB_iff.1 h
  have := matS_ge (xss := xss) (k := xss.length) (fun j hj => (h1 j hj).2)
  omega
theorem adB_row {xss : List (List Int)} (h : adB xss = true) {k : Nat} (hk : k < xss.length) : 0 < totR (rowL xss k) ∧ totR (rowL xss k) ≤ 12 := by
  have ⟨h1, h2⟩ := adB_iff.1 h
  have h3 := matS_mono (xss := xss) (j := k + 1) (k := xss.length) (by omega) (fun i hi => by have := (h1 i hi).2; omega)
  have h4 := matS_nn (xss := xss) (k := k) (fun i hi => by have := (h1 i (by omega)).2; omega)
  have := (h1 k hk).2
  rw [matS] at h3
  omega
theorem adB_num {xss : List (List Int)} (h : adB xss = true) {k j : Nat} (hk : k < xss.length) (hj : j < (rowL xss k).length) : 0 ≤ nth (rowL xss k) j ∧ nth (rowL xss k) j ≤ 12 := by
  have ⟨h1, h2⟩ := adB_iff.1 h
  have h3 := (adB_row h hk).2
  have h4 := totI_at (xs := rowL xss k) hj (h1 k hk).1
  exact ⟨(h1 k hk).1 j hj, by rw [totR] at h3; omega⟩
/-- the number of a matrix in a row and a column -/
def atM (xss : List (List Int)) (i j : Nat) : Int := nth (rowL xss i) j
def colL (xss : List (List Int)) (j : Nat) : List Int := fmap (fun i => atM xss i j) xss.length
def colsL (xss : List (List Int)) : List (List Int) := (List.range xss.length).map (colL xss)
theorem colL_len (xss : List (List Int)) (j : Nat) : (colL xss j).length = xss.length := fmap_len _ _
theorem colsL_len (xss : List (List Int)) : (colsL xss).length = xss.length := by simp [colsL]
theorem colsL_row {xss : List (List Int)} {j : Nat} (h : j < xss.length) : rowL (colsL xss) j = colL xss j := by simp [colsL, rowL, h]
theorem colL_nth {xss : List (List Int)} {i : Nat} (j : Nat) (h : i < xss.length) : nth (colL xss j) i = atM xss i j := fmap_nth _ h
/-- are there as many columns as rows, and nothing below the diagonal? -/
def upB (xss : List (List Int)) : Bool := (List.range xss.length).all fun i => decide ((rowL xss i).length = xss.length) && (List.range i).all fun j => decide (atM xss i j = 0)
theorem upB_iff {xss : List (List Int)} : upB xss = true ↔ ∀ i, i < xss.length → (rowL xss i).length = xss.length ∧ ∀ j, j < i → atM xss i j = 0 := by
  simp [upB]
/-- is it a matrix? -/
def mxB (xss : List (List Int)) : Bool := adB xss && (upB xss && adB (colsL xss))
theorem mxB_iff {xss : List (List Int)} : mxB xss = true ↔ adB xss = true ∧ upB xss = true ∧ adB (colsL xss) = true := by simp [mxB]
theorem mxB_len {xss : List (List Int)} (h : mxB xss = true) {k : Nat} (hk : k < xss.length) : (rowL xss k).length = xss.length := (upB_iff.1 (mxB_iff.1 h).2.1 k hk).1
theorem mxB_small {xss : List (List Int)} (h : mxB xss = true) : xss.length ≤ 12 := adB_small (mxB_iff.1 h).1
theorem mxB_num {xss : List (List Int)} (h : mxB xss = true) {i j : Nat} (hi : i < xss.length) (hj : j < xss.length) : 0 ≤ atM xss i j ∧ atM xss i j ≤ 12 :=
  adB_num (mxB_iff.1 h).1 hi (by rw [mxB_len h hi]; exact hj)
theorem mostTo_ex {l : List Int} : ∀ {k : Nat}, 0 < k → ∃ j, j < k ∧ mostTo l k = nth l j ∨ mostTo l k = -1
  | 0, h => by omega
  | k+1, _ => by
    simp only [mostTo]
    split
    · by_cases hk : 0 < k
      · obtain ⟨j, hj⟩ := mostTo_ex (l := l) hk
        rcases hj with ⟨h1, h2⟩ | h2
        · exact ⟨j, .inl ⟨by omega, h2⟩⟩
        · exact ⟨j, .inr h2⟩
      · obtain rfl : k = 0 := by omega
        exact ⟨0, .inr rfl⟩
    · exact ⟨k, .inl ⟨by omega, rfl⟩⟩
/-- of numbers that are not negative the greatest is 0 exactly if their sum is, or there are none -/
theorem most_pos {l : List Int} (hl : 0 < l.length) (hn : ∀ j, j < l.length → 0 ≤ nth l j) : mostTo l l.length ≠ 0 ↔ 0 < totR l := by
  constructor
  · intro h
    have h0 := mostTo_ge l l.length 0 hl
    have h1 := hn 0 hl
    obtain ⟨j, hj⟩ := mostTo_ex (l := l) hl
    rcases hj with ⟨h2, h3⟩ | h3
    · have := totI_at h2 hn
      rw [totR]; omega
    · omega
  · intro h e
    have hz : totI l l.length = 0 := totI_zero (fun j hj => by
      have := mostTo_ge l l.length j hj
      have := hn j hj
      omega)
    rw [totR] at h
    omega

def rowG (xss : List (List Int)) (i : Nat) : Prop := (rowL xss i).length = xss.length ∧ allB (rowL xss i) 0 12 = true ∧ mostTo (rowL xss i) (rowL xss i).length ≠ 0 ∧ ∀ j, j < i → atM xss i j = 0
theorem rowG_of {xss : List (List Int)} (h : mxB xss = true) {i : Nat} (hi : i < xss.length) : rowG xss i := by
  have ⟨h1, h2, h3⟩ := mxB_iff.1 h
  have h4 := upB_iff.1 h2 i hi
  have h5 : ∀ j, j < (rowL xss i).length → 0 ≤ nth (rowL xss i) j ∧ nth (rowL xss i) j ≤ 12 := fun j hj => adB_num h1 hi hj
  refine ⟨h4.1, ?_, (most_pos (by omega) (fun j hj => (h5 j hj).1)).2 (adB_row h1 hi).1, h4.2⟩
  simp only [allB, List.all_eq_true]
  intro x hx
  obtain ⟨j, hj, rfl⟩ := List.mem_iff_getElem.1 hx
  rw [← nth_get _ _ hj]
  exact inB_iff.2 (h5 j hj)
def colG (xss : List (List Int)) (j : Nat) : Prop := mostTo (colL xss j) xss.length ≠ 0
theorem colG_of {xss : List (List Int)} (h : mxB xss = true) {j : Nat} (hj : j < xss.length) : colG xss j := by
  have ⟨h1, h2, h3⟩ := mxB_iff.1 h
  have h4 := adB_row h3 (k := j) (by rw [colsL_len]; exact hj)
  rw [colsL_row hj] at h4
  have h6 := (most_pos (l := colL xss j) (by rw [colL_len]; omega) (fun i hi => by rw [colL_len] at hi; rw [colL_nth j hi]; exact (mxB_num h hi hj).1)).2 h4.1
  rw [colL_len] at h6
  exact h6
/-- the sums of all numbers of a square, row by row and column by column -/
def sqS (f : Nat → Nat → Int) (n : Nat) : Nat → Int
  | 0 => 0
  | i+1 => sqS f n i + totI (fmap (fun j => f i j) n) n
theorem totI_fmap {f : Nat → Int} {n : Nat} : ∀ {k : Nat}, k ≤ n → totI (fmap f n) k = totI (fmap f k) k
  | 0, _ => rfl
  | k+1, h => by
    rw [totI, totI, fmap_nth _ (show k < n by omega), fmap_nth _ (show k < k + 1 by omega), totI_fmap (f := f) (n := n) (k := k) (by omega), totI_fmap (f := f) (n := k + 1) (k := k) (by omega)]
theorem totI_congr {xs ys : List Int} : ∀ {k : Nat}, (∀ j, j < k → nth xs j = nth ys j) → totI xs k = totI ys k
  | 0, _ => rfl
  | k+1, h => by rw [totI, totI, totI_congr (fun j hj => h j (by omega)), h k (by omega)]
theorem totI_add {f g : Nat → Int} : ∀ {k : Nat}, totI (fmap (fun j => f j + g j) k) k = totI (fmap f k) k + totI (fmap g k) k
  | 0 => rfl
  | k+1 => by
    rw [totI, totI, totI, fmap_nth _ (show k < k + 1 by omega), fmap_nth _ (show k < k + 1 by omega), fmap_nth _ (show k < k + 1 by omega), totI_fmap (f := fun j => f j + g j) (n := k + 1) (k := k) (by omega), totI_fmap (f := f) (n := k + 1) (k := k) (by omega), totI_fmap (f := g) (n := k + 1) (k := k) (by omega), totI_add (f := f) (g := g) (k := k)]
    omega
theorem sqS_turn {f : Nat → Nat → Int} {n : Nat} : ∀ {m : Nat}, sqS f n m = sqS (fun i j => f j i) m n
  | 0 => by
    have : ∀ k, sqS (fun i j => f j i) 0 k = 0 := by
      intro k
      induction k with
      | zero => rfl
      | succ k ih => rw [sqS, ih]; rfl
    rw [this]; rfl
  | m+1 => by
    rw [sqS, sqS_turn (f := f) (n := n) (m := m)]
    have : ∀ k, sqS (fun i j => f j i) (m + 1) k = sqS (fun i j => f j i) m k + totI (fmap (fun j => f m j) k) k := by
      intro k
      induction k with
      | zero => rfl
      | succ k ih =>
        rw [sqS, sqS, ih, totI, totI, fmap_nth _ (show m < m + 1 by omega), fmap_nth _ (show k < k + 1 by omega), totI_fmap (f := fun j => f j k) (n := m + 1) (k := m) (by omega), totI_fmap (f := fun j => f m j) (n := k + 1) (k := k) (by omega)]
        omega
    rw [this]
theorem matS_sq {xss : List (List Int)} {n : Nat} : ∀ {k : Nat}, (∀ i, i < k → (rowL xss i).length = n) → matS xss k = sqS (atM xss) n k
  | 0, _ => rfl
  | k+1, h => by
    rw [matS, sqS, matS_sq (fun i hi => h i (by omega)), totR, h k (by omega)]
    congr 1
    exact totI_congr (fun j hj => by rw [fmap_nth _ hj]; rfl)
theorem matS_cols {xss : List (List Int)} (hl : ∀ i, i < xss.length → (rowL xss i).length = xss.length) : matS (colsL xss) (colsL xss).length = matS xss xss.length := by
  rw [colsL_len, matS_sq (n := xss.length) (fun i hi => by rw [colsL_row hi, colL_len]), matS_sq hl, sqS_turn (f := atM xss)]
  have : ∀ k, k ≤ xss.length → sqS (atM (colsL xss)) xss.length k = sqS (fun i j => atM xss j i) xss.length k := by
    intro k
    induction k with
    | zero => intro _; rfl
    | succ k ih =>
      intro hk
      rw [sqS, sqS, ih (by omega)]
      congr 1
      exact totI_congr (fun j hj => by rw [fmap_nth _ hj, fmap_nth _ hj, atM, colsL_row (show k < xss.length by omega), colL_nth k hj])
  exact this _ (Nat.le_refl _)
theorem mx_of {xss : List (List Int)} (hr : ∀ i, i < xss.length → rowG xss i) (hc : ∀ j, j < xss.length → colG xss j) : mxB xss = decide (matS xss xss.length ≤ 12) := by
  rw [Bool.eq_iff_iff, mxB_iff, decide_eq_true_eq]
  refine ⟨fun h => (adB_iff.1 h.1).2, fun h => ?_⟩
  have h5 : ∀ i, i < xss.length → ∀ j, j < (rowL xss i).length → 0 ≤ nth (rowL xss i) j := fun i hi j hj => (allB_nth (hr i hi).2.1 hj).1
  refine ⟨adB_iff.2 ⟨fun k hk => ⟨h5 k hk, (most_pos (by rw [(hr k hk).1]; omega) (h5 k hk)).1 (hr k hk).2.2.1⟩, h⟩, upB_iff.2 (fun i hi => ⟨(hr i hi).1, (hr i hi).2.2.2⟩), adB_iff.2 ⟨fun j hj => ?_, by rw [matS_cols (fun i hi => (hr i hi).1)]; exact h⟩⟩
  rw [colsL_len] at hj
  rw [colsL_row hj]
  have h6 : ∀ i, i < (colL xss j).length → 0 ≤ nth (colL xss j) i := fun i hi => by
    rw [colL_len] at hi
    rw [colL_nth j hi]
    exact h5 i hi j (by rw [(hr i hi).1]; exact hj)
  refine ⟨h6, (most_pos (by rw [colL_len]; omega) h6).1 ?_⟩
  rw [colL_len]
  exact hc j hj

def facN : Nat → Nat
  | 0 => 1
  | k+1 => facN k * (k+1)
/-- the binomial coefficient as it is reckoned -/
def chT (n k : Nat) : Nat → Nat
  | 0 => 1
  | i+1 => chT n k i * (n - k + (i+1)) / (i+1)
def chN (n k : Nat) : Nat := chT n k k
theorem ch_fac12 : ∀ n k : Fin 13, k.val ≤ n.val → chN n.val k.val * facN k.val * facN (n.val - k.val) = facN n.val := by decide +kernel
theorem ch_small12 : ∀ n k i : Fin 13, i.val < k.val → k.val ≤ n.val → chT n.val k.val i.val * (n.val - k.val + (i.val+1)) ≤ 100000 := by decide +kernel
theorem ch_le12 : ∀ n k : Fin 13, k.val ≤ n.val → chN n.val k.val ≤ 1000 := by decide +kernel
theorem fac_small12 : ∀ n : Fin 13, facN n.val ≤ 479001600 ∧ 1 ≤ facN n.val := by decide +kernel
theorem ch_fac {n k : Nat} (hk : k ≤ n) (hn : n ≤ 12) : chN n k * facN k * facN (n - k) = facN n := ch_fac12 ⟨n, by omega⟩ ⟨k, by omega⟩ hk
theorem ch_small {n k i : Nat} (hi : i < k) (hk : k ≤ n) (hn : n ≤ 12) : chT n k i * (n - k + (i+1)) ≤ 100000 := ch_small12 ⟨n, by omega⟩ ⟨k, by omega⟩ ⟨i, by omega⟩ hi hk
theorem ch_le {n k : Nat} (hk : k ≤ n) (hn : n ≤ 12) : chN n k ≤ 1000 := ch_le12 ⟨n, by omega⟩ ⟨k, by omega⟩ hk
theorem fac_small {n : Nat} (hn : n ≤ 12) : facN n ≤ 479001600 ∧ 1 ≤ facN n := fac_small12 ⟨n, by omega⟩
/-- the count and what is left behind the first j numbers of a row -/
def nmR (xs : List Int) (c l : Nat) : Nat → Nat × Nat
  | 0 => (c, l)
  | j+1 => ((nmR xs c l j).1 * chN (nmR xs c l j).2 (nth xs j).toNat, (nmR xs c l j).2 - (nth xs j).toNat)
def nmM (xss : List (List Int)) (S : Nat) : Nat → Nat × Nat
  | 0 => (1, S)
  | i+1 => nmR (rowL xss i) (nmM xss S i).1 (nmM xss S i).2 xss.length
/-- what holds on the way -/
structure NmP (S c l : Nat) (t : Int) : Prop where
  left : (l : Int) = (S : Int) - t
  top : c * facN l ≤ facN S
theorem nm_step {S c l n : Nat} {t : Int} (h : NmP S c l t) (hS : S ≤ 12) (ht0 : 0 ≤ t) (ht : t + (n : Int) ≤ (S : Int)) : n ≤ l ∧ l ≤ 12 ∧ NmP S (c * chN l n) (l - n) (t + n) ∧ c * facN l / facN n = c * chN l n * facN (l - n) := by
  have h1 := h.left
  have hnl : n ≤ l := by omega
  have hl : l ≤ 12 := by omega
  have hc := ch_fac hnl hl
  have hf := (fac_small (n := n) (by omega)).2
  have e : c * facN l = (c * chN l n * facN (l - n)) * facN n := by
    rw [← hc]
    ac_rfl
  refine ⟨hnl, hl, ⟨by omega, ?_⟩, by rw [e, Nat.mul_div_cancel _ (by omega)]⟩
  have h2 := h.top
  rw [e] at h2
  exact Nat.le_trans (Nat.le_mul_of_pos_right _ (by omega)) h2
theorem nm_row {S c l : Nat} {t : Int} {xs : List Int} (h : NmP S c l t) (hS : S ≤ 12) (ht0 : 0 ≤ t) (hn : ∀ j, j < xs.length → 0 ≤ nth xs j) (ht : t + totR xs ≤ (S : Int)) : ∀ k, k ≤ xs.length → NmP S (nmR xs c l k).1 (nmR xs c l k).2 (t + totI xs k)
  | 0, _ => by rw [totI]; simpa [nmR] using h
  | k+1, hk => by
    have ih := nm_row h hS ht0 hn ht k (by omega)
    have h1 := hn k (by omega)
    have h2 := totI_mono (xs := xs) (j := k + 1) (k := xs.length) (by omega) hn
    have h3 := totI_nn (xs := xs) (k := k) (fun j hj => hn j (by omega))
    rw [totI] at h2
    rw [totR] at ht
    have h4 := (nm_step (n := (nth xs k).toNat) ih hS (by omega) (by omega)).2.2.1
    rw [nmR, totI]
    have e : t + totI xs k + ((nth xs k).toNat : Int) = t + (totI xs k + nth xs k) := by omega
    rw [e] at h4
    exact h4
theorem nm_at {xss : List (List Int)} (hm : mxB xss = true) : ∀ k, k ≤ xss.length → NmP (matS xss xss.length).toNat (nmM xss (matS xss xss.length).toNat k).1 (nmM xss (matS xss xss.length).toNat k).2 (matS xss k)
  | 0, _ => ⟨by have := matS_nn (xss := xss) (k := xss.length) (fun j hj => by have := (adB_row (mxB_iff.1 hm).1 hj).1; omega); simp [nmM, matS]; try omega, by simp [nmM]⟩
  | k+1, hk => by
    have h1 := (adB_iff.1 (mxB_iff.1 hm).1).2
    have h2 := matS_nn (xss := xss) (k := xss.length) (fun j hj => by have := (adB_row (mxB_iff.1 hm).1 hj).1; omega)
    have h3 := matS_mono (xss := xss) (j := k + 1) (k := xss.length) (by omega) (fun j hj => by have := (adB_row (mxB_iff.1 hm).1 hj).1; omega)
    have h4 := matS_nn (xss := xss) (k := k) (fun j hj => by have := (adB_row (mxB_iff.1 hm).1 (k := j) (by omega)).1; omega)
    rw [matS] at h3
    have h5 := nm_row (xs := rowL xss k) (nm_at hm k (by omega)) (by omega) h4 (fun j hj => (adB_num (mxB_iff.1 hm).1 (by omega) hj).1) (by omega) (rowL xss k).length (Nat.le_refl _)
    rw [mxB_len hm (by omega)] at h5
    rw [nmM, matS, totR, mxB_len hm (by omega)]
    exact h5
def nmV (xss : List (List Int)) : Int := if mxB xss then ((nmM xss (matS xss xss.length).toNat xss.length).1 : Int) else 0

structure NmQ (c l n c' l' : Nat) : Prop where
  q1 : n ≤ l
  q2 : l ≤ 12
  q3 : c' = c * chN l n
  q4 : l' = l - n
  q5 : c ≤ 479001600
  q6 : c' ≤ 479001600
  q7 : c * facN l ≤ 479001600
  q8 : c * facN l / facN n = c' * facN l'
theorem nm_small {S c l : Nat} {t : Int} (h : NmP S c l t) (hS : S ≤ 12) (hl : l ≤ 12) : c ≤ 479001600 ∧ c * facN l ≤ 479001600 := by
  have h1 := (fac_small hS).1
  have h2 := h.top
  have h3 := (fac_small hl).2
  have h4 : c ≤ c * facN l := Nat.le_mul_of_pos_right _ (by omega)
  omega
/-- one number of a matrix -/
theorem nm_next {xss : List (List Int)} (hm : mxB xss = true) {i j : Nat} (hi : i < xss.length) (hj : j < xss.length) :
    ∃ n : Nat, nth (rowL xss i) j = (n : Int) ∧ NmQ (nmR (rowL xss i) (nmM xss (matS xss xss.length).toNat i).1 (nmM xss (matS xss xss.length).toNat i).2 j).1 (nmR (rowL xss i) (nmM xss (matS xss xss.length).toNat i).1 (nmM xss (matS xss xss.length).toNat i).2 j).2 n (nmR (rowL xss i) (nmM xss (matS xss xss.length).toNat i).1 (nmM xss (matS xss xss.length).toNat i).2 (j+1)).1 (nmR (rowL xss i) (nmM xss (matS xss xss.length).toNat i).1 (nmM xss (matS xss xss.length).toNat i).2 (j+1)).2 := by
  have g1 := (adB_iff.1 (mxB_iff.1 hm).1).2
  have g2 := matS_nn (xss := xss) (k := xss.length) (fun j hj => by have := (adB_row (mxB_iff.1 hm).1 hj).1; omega)
  have g3 := matS_mono (xss := xss) (j := i + 1) (k := xss.length) (by omega) (fun j hj => by have := (adB_row (mxB_iff.1 hm).1 hj).1; omega)
  have g4 := matS_nn (xss := xss) (k := i) (fun j hj => by have := (adB_row (mxB_iff.1 hm).1 (k := j) (by omega)).1; omega)
  rw [matS] at g3
  have hrl := mxB_len hm hi
  have hnn : ∀ j, j < (rowL xss i).length → 0 ≤ nth (rowL xss i) j := fun j hj => (adB_num (mxB_iff.1 hm).1 hi hj).1
  have g5 := nm_row (xs := rowL xss i) (nm_at hm i (by omega)) (by omega) g4 hnn (by omega) j (by omega)
  have g6 := totI_mono (xs := rowL xss i) (j := j + 1) (k := (rowL xss i).length) (by omega) hnn
  have g7 := totI_nn (xs := rowL xss i) (k := j) (fun q hq => hnn q (by omega))
  rw [totI] at g6
  rw [totR] at g3
  have h1 := hnn j (by omega)
  obtain ⟨n, hn⟩ : ∃ n : Nat, nth (rowL xss i) j = (n : Int) := ⟨(nth (rowL xss i) j).toNat, by omega⟩
  obtain ⟨h2, h3, h4, h5⟩ := nm_step (n := n) g5 (by omega) (by omega) (by omega)
  have s1 := nm_small g5 (by omega) h3
  have s2 := nm_small h4 (by omega) (by omega)
  have e1 : (nth (rowL xss i) j).toNat = n := by omega
  refine ⟨n, hn, h2, h3, ?_, ?_, s1.1, ?_, s1.2, ?_⟩
  · rw [nmR, e1]
  · rw [nmR, e1]
  · rw [nmR, e1]; exact s2.1
  · rw [nmR, e1]; exact h5

theorem maChoose_any (n k : Nat) (w : World) (hk : k ≤ n) (hn : n ≤ 12) :
    Calls Try.prog 68 #[.int .i64 (n : Int), .int .i64 (k : Int)] w fun e w' => e = .returned (.int .i64 (chN n k : Nat)) ∧ w = w' := by
  have HS : Hid (∀ i, i < k → chT n k i * (n - k + (i+1)) ≤ 100000) := fun i hi => ch_small hi hk hn
  have HE : Hid (chN n k = chT n k k) := rfl
  have HSC : Hid (∀ i, chT n k (i+1) = chT n k i * (n - k + (i+1)) / (i+1)) := fun i => rfl
  go_enter Try.func68, Try.ntmps68
  go_wp2_with fail
  go_loop [5, 6] (fun v i => ∃ t : Nat, t ≤ k ∧ i = .int .i64 ((t : Int) + 1) ∧ v = .int .i64 (chT n k t : Nat)) (fun _ i => k + 1 - (intOf i).toNat)
  case atStart => exact ⟨0, Nat.zero_le _, rfl, rfl⟩
  case round =>
    obtain ⟨t, ht, rfl, rfl⟩ := hrel
    by_cases hlt : t < k
    · have h1 := HS.out t hlt
      have h2 := HSC.out t
      obtain ⟨c, hc⟩ : ∃ c, c = chT n k t := ⟨_, rfl⟩
      rw [← hc] at h1 h2 ⊢
      have e1 : (n : Int) - (k : Int) + ((t : Int) + 1) = ((n - k + (t + 1) : Nat) : Int) := by omega
      have e4 : (c : Int) * ((n : Int) - (k : Int) + ((t : Int) + 1)) = ((c * (n - k + (t + 1)) : Nat) : Int) := by rw [e1, Int.natCast_mul]
      have e3 : Int.tdiv ((c * (n - k + (t + 1)) : Nat) : Int) ((t : Int) + 1) = ((c * (n - k + (t + 1)) / (t + 1) : Nat) : Int) := by
        rw [show (t : Int) + 1 = ((t + 1 : Nat) : Int) by omega]
        rfl
      obtain ⟨P, hP⟩ : ∃ P, P = c * (n - k + (t + 1)) := ⟨_, rfl⟩
      rw [← hP] at h1 h2 e4 e3
      obtain ⟨Q, hQ⟩ : ∃ Q, Q = P / (t + 1) := ⟨_, rfl⟩
      have hQ1 : Q ≤ 100000 := by rw [hQ]; exact Nat.le_trans (Nat.div_le_self _ _) h1
      rw [← hQ] at h2 e3
      have HN := Lib.hid h2
      have tz : ((t : Int) + 1 == 0) = false := by simp; omega
      have tz2 : ¬ ((t : Int) + 1 = 0) := by omega
      clear e1 hP hQ hc h2
      go_wp2_with fail
      go_round
      case rel => exact ⟨t + 1, by omega, by go_num, by rw [HN.out]⟩
      case measure => simp [intOf]; omega
    · obtain rfl : t = k := by omega
      go_wp2_with fail
      go_ret
      exact ⟨ret_int (by rw [HE.out]), rfl⟩

theorem maTotal_any (a : Option Addr) (xs : List Int) (cap : Nat) (w : World) (hx : Rd w a xs) (hs : xs.length ≤ 1048576) (hv : ∀ j, j < xs.length → 0 ≤ nth xs j ∧ nth xs j ≤ 12) :
    Calls Try.prog 69 #[.slice a xs.length cap] w fun e w' => e = .returned (.int .i64 (totR xs)) ∧ w = w' := by
  have HV := Lib.hid hv
  have HB : Hid (∀ k, k ≤ xs.length → 0 ≤ totI xs k ∧ totI xs k ≤ 12 * (k : Int)) := by
    intro k
    induction k with
    | zero => intro _; simp [totI]
    | succ k ih =>
      intro hk
      have h1 := ih (by omega)
      have h2 := hv k (by omega)
      rw [totI]; omega
  clear hv
  go_enter Try.func69, Try.ntmps69
  go_wp2_with fail
  go_loop [3, 8] (fun m i => ∃ k : Nat, k ≤ xs.length ∧ i = .int .i64 k ∧ m = .int .i64 (totI xs k)) (fun _ i => xs.length - (intOf i).toNat)
  case atStart => exact ⟨0, Nat.zero_le _, rfl, rfl⟩
  case round =>
    obtain ⟨k, hk, rfl, rfl⟩ := hrel
    have ⟨h1, h2⟩ := HB.out k hk
    by_cases hlt : k < xs.length
    · obtain ⟨b, off, rfl, hbl, hc⟩ := hx.cell k hlt
      have ⟨h3, h4⟩ := HV.out k hlt
      have HN : Hid (totI xs (k+1) = totI xs k + nth xs k) := rfl
      go_wp2_with fail
      go_round
      case rel => exact ⟨k + 1, by omega, by go_num, val_int (by rw [HN.out])⟩
      case measure => simp [intOf]; omega
    · obtain rfl : k = xs.length := by omega
      go_wp2_with fail
      go_ret
      exact ⟨rfl, rfl⟩

set_option maxRecDepth 100000 in
theorem maSum_any (a : Option Addr) (xss : List (List Int)) (cap : Nat) (w : World) (hx : RdS w a xss) (h12 : xss.length ≤ 12) (hl : ∀ k, k < xss.length → (rowL xss k).length = xss.length) (hv : ∀ k, k < xss.length → ∀ j, j < (rowL xss k).length → 0 ≤ nth (rowL xss k) j ∧ nth (rowL xss k) j ≤ 12) :
    Calls Try.prog 47 #[.agg #[.slice a xss.length cap]] w fun e w' => e = .returned (.int .i64 (matS xss xss.length)) ∧ Below w.heap.size w w' := by
  have hlen := hx.len
  have HV := Lib.hid hv
  have HL := Lib.hid hl
  have HR : Hid (∀ k, k < xss.length → 0 ≤ totR (rowL xss k) ∧ totR (rowL xss k) ≤ 144) := by
    intro k hk
    have h3 : ∀ j, j ≤ (rowL xss k).length → 0 ≤ totI (rowL xss k) j ∧ totI (rowL xss k) j ≤ 12 * (j : Int) := by
      intro j
      induction j with
      | zero => intro _; simp [totI]
      | succ j ih =>
        intro hj
        have h1 := ih (by omega)
        have h2 := hv k hk j (by omega)
        rw [totI]; omega
    have h4 := h3 _ (Nat.le_refl _)
    have h5 := hl k hk
    rw [totR]; omega
  have HB : Hid (∀ k, k ≤ xss.length → 0 ≤ matS xss k ∧ matS xss k ≤ 144 * (k : Int)) := by
    intro k
    induction k with
    | zero => intro _; simp [matS]
    | succ k ih =>
      intro hk
      have h1 := ih (by omega)
      have h2 := HR.out k (by omega)
      rw [matS]; omega
  clear hv hl
  go_enter Try.func47, Try.ntmps47
  go_wp2_with fail
  go_loop [3, 9] (fun m i => ∃ k : Nat, k ≤ xss.length ∧ i = .int .i64 k ∧ m = .int .i64 (matS xss k)) (fun _ i => xss.length - (intOf i).toNat)
  case atStart => exact ⟨0, Nat.zero_le _, rfl, rfl⟩
  case round =>
    obtain ⟨k, hk, rfl, rfl⟩ := hrel
    have ⟨h1, h2⟩ := HB.out k hk
    by_cases hlt : k < xss.length
    · obtain ⟨b, off, a', cap', rfl, hbl, hc, hr⟩ := (hx.below (show Below w.heap.size w (w.alloc (.cells #[.slice a xss.length cap] 29)) from (by repeat (first | exact Below.refl _ _ | assumption | refine Below.alloc ?_ (by first | exact Nat.le_refl _ | (simp only [World.size_alloc, World.size_setCell, World.size_drew]; omega) | omega) _ | refine Below.setCell ?_ (by first | exact Nat.le_refl _ | (simp only [World.size_alloc, World.size_setCell, World.size_drew]; omega) | omega) _ | refine Below.drew ?_)))).row k hlt
      have ⟨h3, h4⟩ := HR.out k hlt
      have h5 := HL.out k hlt
      have k1 : (k : Int) < (xss.length : Int) := by omega
      have HC := Lib.hid (fun W (hr : Rd W a' (rowL xss k)) => maTotal_any a' (rowL xss k) cap' W hr (by omega) (HV.out k hlt))
      have HN : Hid (matS xss (k+1) = matS xss k + totR (rowL xss k)) := rfl
      obtain ⟨T, hT⟩ : ∃ T, T = totR (rowL xss k) := ⟨_, rfl⟩
      obtain ⟨S, hS⟩ : ∃ S, S = matS xss k := ⟨_, rfl⟩
      rw [← hT] at h3 h4 HN HC
      rw [← hS] at h1 h2 HN ⊢
      clear hT hS h5
      go_wp2_with fail
      refine (HC.out _ hr).mono ?_
      rintro e w' ⟨rfl, rfl⟩
      clear hr
      go_wp2_with fail
      go_round
      case rel => exact ⟨k + 1, by omega, by go_num, val_int (by rw [HN.out])⟩
      case measure => simp [intOf]; omega
    · obtain rfl : k = xss.length := by omega
      go_wp2_with fail
      go_ret
      exact ⟨rfl, (by repeat (first | exact Below.refl _ _ | assumption | refine Below.alloc ?_ (by first | exact Nat.le_refl _ | (simp only [World.size_alloc, World.size_setCell, World.size_drew]; omega) | omega) _ | refine Below.setCell ?_ (by first | exact Nat.le_refl _ | (simp only [World.size_alloc, World.size_setCell, World.size_drew]; omega) | omega) _ | refine Below.drew ?_))⟩

set_option maxRecDepth 100000 in
theorem stNamed_any (a : Option Addr) (xss : List (List Int)) (cap : Nat) (w : World) (hx : RdC w a xss) (hm : mxB xss = true) :
    Calls Try.prog 44 #[.agg #[.slice a xss.length cap]] w fun e w' => e = .returned (.int .i64 ((nmM xss (matS xss xss.length).toNat xss.length).1 : Nat)) ∧ Below w.heap.size w w' := by
  have h12 := mxB_small hm
  have g1 := (adB_iff.1 (mxB_iff.1 hm).1).2
  have g2 := matS_nn (xss := xss) (k := xss.length) (fun j hj => by have := (adB_row (mxB_iff.1 hm).1 hj).1; omega)
  have HNX : Hid (∀ i, i < xss.length → ∀ j, j < xss.length → _) := fun i hi j hj => nm_next hm hi hj
  have HM := Lib.hid hm
  have HSM := Lib.hid (fun W (h : RdC W a xss) => maSum_any a xss cap W h.rd h12 (fun k hk => mxB_len hm hk) (fun k hk j hj => mxB_num hm hk (by rw [mxB_len hm hk] at hj; exact hj)))
  obtain ⟨S, hS⟩ : ∃ S : Nat, matS xss xss.length = (S : Int) := ⟨(matS xss xss.length).toNat, by omega⟩
  have e1 : (matS xss xss.length).toNat = S := by omega
  rw [hS] at HSM
  simp only [e1] at HNX ⊢
  have hS12 : S ≤ 12 := by omega
  obtain ⟨W0, hW0⟩ : ∃ x : World, x = w.alloc (.cells #[.slice a xss.length cap] 29) := ⟨_, rfl⟩
  have bw0 : Below w.heap.size w W0 := by rw [hW0]; exact (Below.refl _ _).alloc (Nat.le_refl _) _
  have B0 : Box1 W0 w.heap.size (.slice a xss.length cap) := by rw [hW0]; exact Box1.new w _ _
  have hx0 := hx.below bw0
  obtain ⟨g0, hg0⟩ : ∃ g, g = w.heap.size := ⟨_, rfl⟩
  clear hm hx e1 hS g1 g2
  go_enter Try.func44, Try.ntmps44
  go_wp2_with fail
  rw [← hW0]
  rw [← hg0] at B0 ⊢
  have ⟨zB0, cB0⟩ := B0
  clear hg0 hW0
  go_wp2_with fail
  refine (HSM.out _ hx0).mono ?_
  rintro e w1 ⟨rfl, hb1⟩
  have hx1 := hx0.below hb1
  have ⟨zB1, cB1⟩ := B0.below hb1
  have b1 := bw0.trans (hb1.mono bw0.size)
  clear cB0
  go_wp2_with fail
  go_loop [3, 4, 14] (fun v3 v4 i => ∃ k : Nat, k ≤ xss.length ∧ i = .int .i64 k ∧ v3 = .int .i64 ((nmM xss S k).1 : Nat) ∧ v4 = .int .i64 ((nmM xss S k).2 : Nat)) (fun _ _ i => xss.length - (intOf i).toNat)
  case atStart => exact ⟨0, Nat.zero_le _, rfl, rfl, rfl⟩
  case round =>
    obtain ⟨k, hk, rfl, rfl, rfl⟩ := hrel
    by_cases hlt : k < xss.length
    · have hx2 := hx1
      obtain ⟨b, off, a', cap', rfl, hbl, hc, hr, hcp⟩ := hx2.row hlt
      have hrow := mxB_len HM.out hlt
      have HK : Hid (nmM xss S (k+1) = nmR (rowL xss k) (nmM xss S k).1 (nmM xss S k).2 xss.length) := rfl
      have HNK : Hid (∀ j, j < xss.length → _) := fun j hj => HNX.out k hlt j hj
      rw [hrow] at hc
      go_wp2_with fail
      go_loop [3, 4, 20] (fun v3 v4 i => ∃ j : Nat, j ≤ xss.length ∧ i = .int .i64 j ∧ v3 = .int .i64 ((nmR (rowL xss k) (nmM xss S k).1 (nmM xss S k).2 j).1 : Nat) ∧ v4 = .int .i64 ((nmR (rowL xss k) (nmM xss S k).1 (nmM xss S k).2 j).2 : Nat)) (fun _ _ i => xss.length - (intOf i).toNat)
      case atStart => exact ⟨0, Nat.zero_le _, rfl, rfl, rfl⟩
      case round =>
        obtain ⟨j, hj, rfl, rfl, rfl⟩ := hrel
        by_cases hjl : j < xss.length
        · obtain ⟨b', off', rfl, hbl', hc'⟩ := hr.cell j (by rw [hrow]; exact hjl)
          obtain ⟨n, en, Q⟩ := HNK.out j hjl
          rw [en] at hc'
          obtain ⟨p, hp⟩ : ∃ p, p = nmR (rowL xss k) (nmM xss S k).1 (nmM xss S k).2 j := ⟨_, rfl⟩
          obtain ⟨p', hp'⟩ : ∃ p, p = nmR (rowL xss k) (nmM xss S k).1 (nmM xss S k).2 (j+1) := ⟨_, rfl⟩
          have HP' := Lib.hid hp'
          rw [← hp, ← hp'] at Q
          rw [← hp]
          obtain ⟨c, l⟩ := p
          obtain ⟨c', l'⟩ := p'
          obtain ⟨q1, q2, q3, q4, q5, q6, q7, q8⟩ := Q
          simp only at q1 q2 q3 q4 q5 q6 q7 q8 ⊢
          have HC := Lib.hid (fun W => maChoose_any l n W q1 q2)
          obtain ⟨C, hC⟩ : ∃ C, C = chN l n := ⟨_, rfl⟩
          rw [← hC] at HC q3
          have e3 : (c : Int) * (C : Int) = (c' : Int) := by rw [q3, Int.natCast_mul]
          have e4 : (l : Int) - (n : Int) = (l' : Int) := by omega
          have kj : (j : Int) < (xss.length : Int) := by omega
          clear hp hp' en q3 q4 q7 q8 hC
          go_wp2_with fail
          refine (HC.out _).mono ?_
          rintro e w2 ⟨rfl, rfl⟩
          go_wp2_with fail
          go_round
          case rel => exact ⟨j + 1, by omega, by go_num, by rw [← HP'.out], by rw [← HP'.out]⟩
          case measure => simp [intOf]; omega
        · obtain rfl : j = xss.length := by omega
          go_wp2_with fail
          go_round
          case rel => exact ⟨k + 1, by omega, by go_num, by rw [HK.out], by rw [HK.out]⟩
          case measure => simp [intOf]; omega
    · obtain rfl : k = xss.length := by omega
      go_wp2_with fail
      go_ret
      exact ⟨rfl, b1⟩

/-- one number more at the end of a row that is owned -/
theorem push_at {ops : Array Oper} {rest : List Oper} {o : Oper} {a : Act} {Q : Exit → Act → World → Prop} (hgd : o.guard = none) (s x : Operand)
    (ho : o.op = .call { callee := .builtin .append, args := #[s, x], argTypes := #[26, 26] }) {wr : World} {B : Nat} {v : Value} {ys : List Int} {z : Int}
    (hs : a.eval s = v) (hown : OwnI wr B v ys) (hx : a.eval x = .slice (some ⟨wr.heap.size, 0, none⟩) 1 1) (h63 : ys.length ≤ 1048576) (hB : B ≤ wr.heap.size)
    (h : ∀ v' w', OwnI w' B v' (ys ++ [z]) → wr.grownBy w' v.ownBlock → (v'.ownBlock = v.ownBlock ∨ v'.ownBlock = some (wr.heap.size + 1)) → wpList Try.prog ops Q rest (a.put o.dst v') w') :
    wpList Try.prog ops Q (o :: rest) a (wr.alloc (.cells #[.int .i64 z] 3)) := by
  obtain ⟨i0, hi, hz0, hz1, hz2⟩ := info_parts infoInt
  refine wpList_append_own_at _ hgd s x 26 ho B 3 i0 (.int .i64 0) 1 8 Try.underlying26 hi hz0 hz1 hz2 rfl (by decide) v ys.length (ys.map (Value.int .i64)) hs (hown.alloc _) ⟨wr.heap.size, 0, none⟩ 1 1 [.int .i64 z] hx rfl (cell_one_new _ _ _) (by intro u hu; simp at hu; subst hu; rfl) (by unfold maxLen; omega) (by omega) (by simp; omega) ?_
  intro v' w' ho2 hg _ hat
  refine h v' w' ?_ (grown_alloc_set hg) (by simpa using hat)
  unfold OwnI
  rw [List.length_append, List.map_append]
  exact ho2
/-- the same at a step of a region that draws its order; the new number lies somewhere -/
theorem step_push {ops : Array Oper} {o : Oper} {a : Act} {K : Act → World → Prop} {Q : Exit → Act → World → Prop} {E : Prop} (hgd : o.guard = none) (s x : Operand)
    (ho : o.op = .call { callee := .builtin .append, args := #[s, x], argTypes := #[26, 26] }) {W : World} {B g n : Nat} {v : Value} {ys : List Int} {z : Int}
    (hs : a.eval s = v) (hx : a.eval x = .slice (some ⟨g, 0, none⟩) 1 1) (hown : OwnI W B v ys) (hn : ys.length = n) (hz : W.cell? ⟨g, 0, none⟩ = some (.int .i64 z)) (h63 : n ≤ 1048576) (hB : B ≤ W.heap.size)
    (h : ∀ g' cap w', OwnI w' B (.slice (some ⟨g', 0, none⟩) (n + 1) cap) (ys ++ [z]) → W.grownBy w' v.ownBlock → (v.ownBlock = some g' ∨ g' = W.heap.size) → K (a.put o.dst (.slice (some ⟨g', 0, none⟩) (n + 1) cap)) w') :
    if Region.wanted o (yielded ops a.tmps) = true then Oper.wp Try.prog o a W K Q else E := by
  subst hn
  obtain ⟨i0, hi, hz0, hz1, hz2⟩ := info_parts infoInt
  refine step_append_lies W hgd s x 26 ho B 3 i0 (.int .i64 0) 1 8 Try.underlying26 hi hz0 hz1 hz2 rfl (by decide) v ys.length (ys.map (Value.int .i64)) hs hown ⟨g, 0, none⟩ 1 1 [.int .i64 z] hx rfl ?_ (by intro u hu; simp at hu; subst hu; rfl) (by omega) (by unfold maxLen; omega) (by omega) hB W.heap.size rfl ?_
  · intro j u hj
    obtain ⟨hlt, e⟩ := List.getElem?_eq_some_iff.1 hj
    have h0 : j = 0 := by simpa using hlt
    subst h0
    simp at e
    subst e
    rw [Addr.add_lit]; simpa using hz
  · intro g' cap w' ho2 hg hat _
    refine h g' cap w' ?_ hg hat
    unfold OwnI
    rw [List.length_append, List.map_append]
    exact ho2
theorem news_after {w w3 : World} {x : Int} {m : Nat} (h : Below ((w.drewN m).alloc (.cells #[.int .i64 x] 3)).heap.size ((w.drewN m).alloc (.cells #[.int .i64 x] 3)) w3) : w3.cell? ⟨w.heap.size, 0, none⟩ = some (.int .i64 x) :=
  (h.cell (p := ⟨w.heap.size, 0, none⟩) (show w.heap.size < ((w.drewN m).alloc _).heap.size by rw [World.size_alloc]; exact Nat.lt_succ_of_le (Joins.below_draws w.heap.size w m).size)).trans ((show ∀ W : World, (W.alloc (.cells #[.int .i64 x] 3)).cell? ⟨W.heap.size, 0, none⟩ = some (.int .i64 x) from fun W => by simp) (w.drewN m))
theorem below_after {w w3 : World} {m : Nat} {o : Obj} (h : Below ((w.drewN m).alloc o).heap.size ((w.drewN m).alloc o) w3) : Below w.heap.size w w3 :=
  Below.trans ((Joins.below_draws w.heap.size w m).alloc (Joins.below_draws w.heap.size w m).size _) (h.mono (Nat.le_trans (Joins.below_draws w.heap.size w m).size (by simp)))
theorem below_drew {w w3 : World} {m : Nat} (h : Below (w.drewN m).heap.size (w.drewN m) w3) : Below w.heap.size w w3 :=
  Below.trans (Joins.below_draws w.heap.size w m) (h.mono (Joins.below_draws w.heap.size w m).size)
/-- two values that own no block together -/
def SepV (v u : Value) : Prop := ∀ c, v.ownBlock = some c → u.ownBlock ≠ some c
theorem SepV.symm {v u : Value} (h : SepV v u) : SepV u v := fun c e e2 => h c e2 e
/-- the first of two rows has grown -/
theorem SepV.grow {w : World} {B : Nat} {v v' u : Value} {ys : List Int} {m : Nat} (h : SepV v u) (hu : OwnI w B u ys) (hm : w.heap.size ≤ m) (hat : v'.ownBlock = v.ownBlock ∨ v'.ownBlock = some m) : SepV v' u := by
  intro c e e2
  rcases hat with h1 | h1
  · exact h c (h1 ▸ e) e2
  · rw [h1] at e
    have := (hu.lt c e2).2
    simp only [Option.some.injEq] at e
    omega

theorem maColumn_any (a : Option Addr) (xss : List (List Int)) (cap : Nat) (j : Nat) (w : World) (hx : RdS w a xss) (h12 : xss.length ≤ 12) (hj : ∀ k, k < xss.length → j < (rowL xss k).length) :
    Calls Try.prog 60 #[.agg #[.slice a xss.length cap], .int .i64 (j : Int)] w fun e w' => ∃ a' cap', e = .returned (.slice a' xss.length cap') ∧ OwnI w' w.heap.size (.slice a' xss.length cap') (colL xss j) ∧ Below w.heap.size w w' := by
  have hlen := hx.len
  have HJ := Lib.hid hj
  clear hj
  go_enter Try.func60, Try.ntmps60
  go_wp2_with fail
  go_loopw [5, 11] (fun v i wr => ∃ k : Nat, k ≤ xss.length ∧ i = .int .i64 k ∧ OwnI wr w.heap.size v (fmap (fun i => atM xss i j) k) ∧ Below w.heap.size w wr) (fun _ i _ => xss.length - (intOf i).toNat)
  case atStart => exact ⟨0, Nat.zero_le _, rfl, OwnI.nil _ _, (by repeat (first | exact Below.refl _ _ | assumption | refine Below.alloc ?_ (by first | exact Nat.le_refl _ | (simp only [World.size_alloc, World.size_setCell, World.size_drew]; omega) | omega) _ | refine Below.setCell ?_ (by first | exact Nat.le_refl _ | (simp only [World.size_alloc, World.size_setCell, World.size_drew]; omega) | omega) _ | refine Below.drew ?_))⟩
  case round =>
    obtain ⟨k, hk, rfl, hown, hb⟩ := hrel
    have hbs := hb.size
    by_cases hlt : k < xss.length
    · obtain ⟨b, off, a', cap', rfl, hbl, hc, hr⟩ := (hx.below hb).row k hlt
      have h5 := HJ.out k hlt
      have k1 : (k : Int) < (xss.length : Int) := by omega
      obtain ⟨b2, off2, rfl, hbl2, hc2⟩ := hr.cell j h5
      have hrl := hr.len
      have j1 : (j : Int) < ((rowL xss k).length : Int) := by omega
      have HN : Hid (fmap (fun i => atM xss i j) (k+1) = fmap (fun i => atM xss i j) k ++ [nth (rowL xss k) j]) := fmap_succ _ _
      obtain ⟨ys, hys⟩ : ∃ ys, ys = fmap (fun i => atM xss i j) k := ⟨_, rfl⟩
      have hyl : ys.length = k := by rw [hys, fmap_len]
      rw [← hys] at hown HN
      clear hys
      go_wp2_with (at_builtin; refine push_at rfl _ _ rfl (z := nth (rowL xss k) j) rfl hown rfl (by omega) (by omega) ?_)
      intro v3 w3 o3 hg _
      have hU := hown.lt
      have b3 := hb.trans (below_of_grown hg (fun c e => (hU c e).1) hbs)
      clear hg hown
      go_wp2_with fail
      go_roundw
      case rel => exact ⟨k + 1, by omega, by go_num, by rw [HN.out]; exact o3, b3⟩
      case measure => simp [intOf]; omega
    · obtain rfl : k = xss.length := by omega
      have hfm := hown.form
      rw [fmap_len] at hfm
      obtain ⟨a', cap', rfl⟩ := hfm
      go_wp2_with fail
      go_ret
      exact ⟨a', cap', rfl, hown, hb⟩

theorem l1In_any (n lo hi : Int) (w : World) :
    Calls Try.prog 46 #[.int .i64 n, .int .i64 lo, .int .i64 hi] w fun e w' => e = .returned (.bool (inB n lo hi)) ∧ w = w' := by
  go_enter Try.func46, Try.ntmps46
  go_wp2
  all_goals (go_ret; exact ⟨ret_bool (by simp [inB]; try omega), rfl⟩)
theorem l1In_is {n lo hi : Int} {b : Bool} (h : inB n lo hi = b) (w : World) (m : Nat) :
    Calls Try.prog 46 #[.int .i64 n, .int .i64 lo, .int .i64 hi] (w.drewN m) fun e w' => e = .returned (.bool b) ∧ ∃ k, w' = w.drewN k :=
  Calls.quiet_of_same ((l1In_any n lo hi (w.drewN m)).mono (fun e w' hh => ⟨by rw [← h]; exact hh.1, hh.2.symm⟩))

theorem l1All_any (a : Option Addr) (xs : List Int) (cap : Nat) (lo hi : Int) (w : World) (hx : Rd w a xs) :
    Calls Try.prog 58 #[.slice a xs.length cap, .int .i64 lo, .int .i64 hi] w fun e w' => e = .returned (.bool (allB xs lo hi)) ∧ w = w' := by
  have hlen := hx.len
  go_enter Try.func58, Try.ntmps58
  go_wp2_with fail
  go_loop [11] (fun i => ∃ k : Nat, k ≤ xs.length ∧ i = .int .i64 k ∧ allB (xs.take k) lo hi = true) (fun i => xs.length - (intOf i).toNat)
  case atStart => exact ⟨0, Nat.zero_le _, rfl, rfl⟩
  case round =>
    obtain ⟨k, hk, rfl, hall⟩ := hrel
    by_cases hlt : k < xs.length
    · obtain ⟨b, off, rfl, hbl, hc⟩ := hx.cell k hlt
      cases hin : inB (nth xs k) lo hi
      · have hf := Lib.hid (allB_false hlt hin)
        go_wp2_with (go_at_call 46; refine (l1In_any _ _ _ _).mono ?_; rintro e w' ⟨rfl, rfl⟩)
        go_ret
        exact ⟨ret_bool hf.out.symm, rfl⟩
      · go_wp2_with (go_at_call 46; refine (l1In_any _ _ _ _).mono ?_; rintro e w' ⟨rfl, rfl⟩)
        go_round
        case rel => exact ⟨k + 1, by omega, by go_num, by rw [allB_take _ _ _ _ hlt, hall, hin]; rfl⟩
        case measure => simp [intOf]; omega
    · go_wp2_with fail
      go_ret
      exact ⟨ret_bool (by rw [← hall, List.take_of_length_le (by omega)]), rfl⟩
theorem l1All_is {a : Option Addr} {xs : List Int} {cap : Nat} {lo hi : Int} {b : Bool} {w : World} (hx : Rd w a xs) (h : allB xs lo hi = b) (m : Nat) :
    Calls Try.prog 58 #[.slice a xs.length cap, .int .i64 lo, .int .i64 hi] (w.drewN m) fun e w' => e = .returned (.bool b) ∧ ∃ k, w' = w.drewN k :=
  Calls.quiet_of_same ((l1All_any a xs cap lo hi (w.drewN m) (hx.below (Joins.below_draws _ _ _))).mono (fun e w' hh => ⟨by rw [← h]; exact hh.1, hh.2.symm⟩))

def maxI (a b : Int) : Int := if b < a then a else b
theorem l1Most_any (a b : Int) (w : World) : Calls Try.prog 84 #[.int .i64 a, .int .i64 b] w fun e w' => e = .returned (.int .i64 (maxI a b)) ∧ w = w' := by
  by_cases h : b < a
  · have H : Hid (maxI a b = a) := by rw [Hid, maxI, if_pos h]
    go_enter Try.func84, Try.ntmps84
    go_wp2
    go_ret
    exact ⟨ret_int H.out.symm, rfl⟩
  · have H : Hid (maxI a b = b) := by rw [Hid, maxI, if_neg h]
    go_enter Try.func84, Try.ntmps84
    go_wp2
    go_ret
    exact ⟨ret_int H.out.symm, rfl⟩

theorem mostTo_succ (l : List Int) (k : Nat) : maxI (mostTo l k) (nth l k) = mostTo l (k+1) := rfl
theorem ivMost_any (a : Option Addr) (l : List Int) (cap : Nat) (w : World) (hx : Rd w a l) :
    Calls Try.prog 59 #[.slice a l.length cap] w fun e w' => e = .returned (.int .i64 (mostTo l l.length)) ∧ w = w' := by
  have hlen := hx.len
  go_enter Try.func59, Try.ntmps59
  go_wp2_with fail
  go_loop [3, 8] (fun m i => ∃ k : Nat, k ≤ l.length ∧ i = .int .i64 k ∧ m = .int .i64 (mostTo l k)) (fun _ i => l.length - (intOf i).toNat)
  case atStart => exact ⟨0, Nat.zero_le _, rfl, rfl⟩
  case round =>
    obtain ⟨k, hk, rfl, rfl⟩ := hrel
    by_cases hlt : k < l.length
    · obtain ⟨b, off, rfl, hbl, hc⟩ := hx.cell k hlt
      have HM := Lib.hid (mostTo_succ l k)
      go_wp2_with (go_at_call 84; refine (l1Most_any _ _ _).mono ?_; rintro e w' ⟨rfl, rfl⟩)
      go_round
      case rel => exact ⟨k + 1, by omega, by go_num, val_int HM.out⟩
      case measure => simp [intOf]; omega
    · obtain rfl : k = l.length := by omega
      go_wp2_with fail
      go_ret
      exact ⟨rfl, rfl⟩

set_option maxRecDepth 100000 in
theorem maGood_any (a : Option Addr) (xss : List (List Int)) (cap : Nat) (w : World) (hx : RdS w a xss) :
    Calls Try.prog 31 #[.agg #[.slice a xss.length cap]] w fun e w' => e = .returned (.bool (mxB xss)) ∧ Below w.heap.size w w' := by
  have hlen := hx.len
  have HX := Lib.hid hx
  by_cases h12 : 12 < xss.length
  · have H : Hid (mxB xss = false) := by
      rw [Hid, ← Bool.not_eq_true]
      intro h
      have := mxB_small h
      omega
    go_enter Try.func31, Try.ntmps31
    go_wp2_with fail
    go_ret
    exact ⟨ret_bool H.out.symm, (by repeat (first | exact Below.refl _ _ | assumption | refine Below.alloc ?_ (by first | exact Nat.le_refl _ | (simp only [World.size_alloc, World.size_setCell, World.size_drew]; omega) | omega) _ | refine Below.setCell ?_ (by first | exact Nat.le_refl _ | (simp only [World.size_alloc, World.size_setCell, World.size_drew]; omega) | omega) _ | refine Below.drew ?_))⟩
  · go_enter Try.func31, Try.ntmps31
    go_wp2_with fail
    go_loopw [17] (fun i wr => ∃ k : Nat, k ≤ xss.length ∧ i = .int .i64 k ∧ Hid (∀ j, j < k → rowG xss j) ∧ wr = (w.alloc (.cells #[.slice a xss.length cap] 29))) (fun i _ => xss.length - (intOf i).toNat)
    case atStart => exact ⟨0, Nat.zero_le _, rfl, fun j hj => by omega, rfl⟩
    case round =>
      obtain ⟨k, hk, rfl, HR, rfl⟩ := hrel
      by_cases hlt : k < xss.length
      · obtain ⟨b, off, a', cap', rfl, hbl, hc, hr⟩ := (HX.out.below (show Below w.heap.size w (w.alloc (.cells #[.slice a xss.length cap] 29)) from (by repeat (first | exact Below.refl _ _ | assumption | refine Below.alloc ?_ (by first | exact Nat.le_refl _ | (simp only [World.size_alloc, World.size_setCell, World.size_drew]; omega) | omega) _ | refine Below.setCell ?_ (by first | exact Nat.le_refl _ | (simp only [World.size_alloc, World.size_setCell, World.size_drew]; omega) | omega) _ | refine Below.drew ?_)))).row k hlt
        have k1 : (k : Int) < (xss.length : Int) := by omega
        by_cases hq : (rowL xss k).length = xss.length
        · have hqq : (((rowL xss k).length : Int) != (xss.length : Int)) = false := by simp [hq]
          have HQ := Lib.hid hq
          have hrl := hr.len
          cases hal : allB (rowL xss k) 0 12
          · have H : Hid (mxB xss = false) := by
              rw [Hid, ← Bool.not_eq_true]
              intro h
              rw [(rowG_of h hlt).2.1] at hal
              cases hal
            have HA := Lib.hid hal
            clear hq hal
            go_wp2_with fail
            refine (l1All_any _ _ _ _ _ _ hr).mono ?_
            rintro e w' ⟨rfl, rfl⟩
            rw [HA.out]
            go_wp2_with fail
            go_ret
            exact ⟨ret_bool H.out.symm, (by repeat (first | exact Below.refl _ _ | assumption | refine Below.alloc ?_ (by first | exact Nat.le_refl _ | (simp only [World.size_alloc, World.size_setCell, World.size_drew]; omega) | omega) _ | refine Below.setCell ?_ (by first | exact Nat.le_refl _ | (simp only [World.size_alloc, World.size_setCell, World.size_drew]; omega) | omega) _ | refine Below.drew ?_))⟩
          · have HA := Lib.hid hal
            by_cases hm : mostTo (rowL xss k) (rowL xss k).length = 0
            · have H : Hid (mxB xss = false) := by
                rw [Hid, ← Bool.not_eq_true]
                intro h
                exact (rowG_of h hlt).2.2.1 hm
              have HM := Lib.hid hm
              clear hq hal hm
              go_wp2_with fail
              refine (l1All_any _ _ _ _ _ _ hr).mono ?_
              rintro e w' ⟨rfl, rfl⟩
              rw [HA.out]
              go_wp2_with fail
              refine (ivMost_any _ _ _ _ hr).mono ?_
              rintro e w' ⟨rfl, rfl⟩
              rw [HM.out]
              go_wp2_with fail
              go_ret
              exact ⟨ret_bool H.out.symm, (by repeat (first | exact Below.refl _ _ | assumption | refine Below.alloc ?_ (by first | exact Nat.le_refl _ | (simp only [World.size_alloc, World.size_setCell, World.size_drew]; omega) | omega) _ | refine Below.setCell ?_ (by first | exact Nat.le_refl _ | (simp only [World.size_alloc, World.size_setCell, World.size_drew]; omega) | omega) _ | refine Below.drew ?_))⟩
            · have hmm : (mostTo (rowL xss k) (rowL xss k).length == 0) = false := by simp [hm]
              have HM := Lib.hid hm
              have HRD := Lib.hid hr
              clear hq hal hm
              obtain ⟨M, hM⟩ : ∃ M, M = mostTo (rowL xss k) (rowL xss k).length := ⟨_, rfl⟩
              have HMM := Lib.hid hM
              rw [← hM] at hmm
              clear hM
              go_wp2_with fail
              refine (l1All_any _ _ _ _ _ _ hr).mono ?_
              rintro e w' ⟨rfl, rfl⟩
              rw [HA.out]
              go_wp2_with fail
              refine (ivMost_any _ _ _ _ hr).mono ?_
              rintro e w' ⟨rfl, rfl⟩
              rw [← HMM.out]
              clear hr
              go_wp2_with fail
              go_loop [38] (fun i => ∃ q : Nat, q ≤ (rowL xss k).length ∧ i = .int .i64 q ∧ Hid (∀ j, j < q → j < k → atM xss k j = 0)) (fun i => (rowL xss k).length - (intOf i).toNat)
              case atStart => exact ⟨0, Nat.zero_le _, rfl, fun j hj => by omega⟩
              case round =>
                obtain ⟨q, hq2, rfl, HU⟩ := hrel
                by_cases hlt2 : q < (rowL xss k).length
                · obtain ⟨b2, off2, rfl, hbl2, hc2⟩ := HRD.out.cell q hlt2
                  have q1 : (q : Int) < ((rowL xss k).length : Int) := by omega
                  by_cases hqk : q < k
                  · have hqi : (q : Int) < (k : Int) := by omega
                    by_cases hp : 0 < nth (rowL xss k) q
                    · have H : Hid (mxB xss = false) := by
                        rw [Hid, ← Bool.not_eq_true]
                        intro h
                        have := (rowG_of h hlt).2.2.2 q hqk
                        rw [atM] at this
                        omega
                      go_wp2_with fail
                      go_ret
                      exact ⟨ret_bool H.out.symm, (by repeat (first | exact Below.refl _ _ | assumption | refine Below.alloc ?_ (by first | exact Nat.le_refl _ | (simp only [World.size_alloc, World.size_setCell, World.size_drew]; omega) | omega) _ | refine Below.setCell ?_ (by first | exact Nat.le_refl _ | (simp only [World.size_alloc, World.size_setCell, World.size_drew]; omega) | omega) _ | refine Below.drew ?_))⟩
                    · have HZ : Hid (atM xss k q = 0) := by
                        have := (allB_nth HA.out hlt2).1
                        rw [Hid, atM]; omega
                      go_wp2_with fail
                      go_round
                      case rel =>
                        refine ⟨q + 1, by omega, by go_num, fun j hj hjk => ?_⟩
                        by_cases e : j = q
                        · rw [e]; exact HZ.out
                        · exact HU.out j (by omega) hjk
                      case measure => simp [intOf]; omega
                  · have hqi : ¬ (q : Int) < (k : Int) := by omega
                    go_wp2_with fail
                    go_round
                    case rel =>
                      refine ⟨q + 1, by omega, by go_num, fun j hj hjk => HU.out j (by omega) hjk⟩
                    case measure => simp [intOf]; omega
                · have HG : Hid (rowG xss k) := ⟨HQ.out, HA.out, HM.out, fun j hj => HU.out j (by rw [HQ.out] at hlt2; rw [HQ.out] at hq2; have := HQ.out; omega) hj⟩
                  go_wp2_with fail
                  go_roundw
                  case rel =>
                    refine ⟨k + 1, by omega, by go_num, fun j hj => ?_, ?_⟩
                    · by_cases e : j = k
                      · rw [e]; exact HG.out
                      · exact HR.out j (by omega)
                    · first | rfl | trivial
                  case measure => simp [intOf]; omega
        · have hqq : (((rowL xss k).length : Int) != (xss.length : Int)) = true := by simp; omega
          have H : Hid (mxB xss = false) := by
            rw [Hid, ← Bool.not_eq_true]
            intro h
            exact hq (mxB_len h hlt)
          clear hq
          go_wp2_with fail
          go_ret
          exact ⟨ret_bool H.out.symm, (by repeat (first | exact Below.refl _ _ | assumption | refine Below.alloc ?_ (by first | exact Nat.le_refl _ | (simp only [World.size_alloc, World.size_setCell, World.size_drew]; omega) | omega) _ | refine Below.setCell ?_ (by first | exact Nat.le_refl _ | (simp only [World.size_alloc, World.size_setCell, World.size_drew]; omega) | omega) _ | refine Below.drew ?_))⟩
      · obtain rfl : k = xss.length := by omega
        have HL : Hid (∀ k, k < xss.length → (rowL xss k).length = xss.length) := fun k hk => (HR.out k hk).1
        have HV : Hid (∀ k, k < xss.length → ∀ j, j < (rowL xss k).length → 0 ≤ nth (rowL xss k) j ∧ nth (rowL xss k) j ≤ 12) := fun k hk j hj => allB_nth (HR.out k hk).2.1 hj
        clear hx
        go_wp2_with fail
        go_loopw [55] (fun i wr => ∃ k : Nat, k ≤ xss.length ∧ i = .int .i64 k ∧ Hid (∀ j, j < k → colG xss j) ∧ Below w.heap.size w wr ∧ wr.cell? ⟨w.heap.size, 0, none⟩ = some (.slice a xss.length cap) ∧ w.heap.size < wr.heap.size) (fun i _ => xss.length - (intOf i).toNat)
        case atStart => exact ⟨0, Nat.zero_le _, rfl, fun j hj => by omega, (by repeat (first | exact Below.refl _ _ | assumption | refine Below.alloc ?_ (by first | exact Nat.le_refl _ | (simp only [World.size_alloc, World.size_setCell, World.size_drew]; omega) | omega) _ | refine Below.setCell ?_ (by first | exact Nat.le_refl _ | (simp only [World.size_alloc, World.size_setCell, World.size_drew]; omega) | omega) _ | refine Below.drew ?_)), by simp, by simp⟩
        case round =>
          obtain ⟨q, hq, rfl, HC, hb, hcell, hsz⟩ := hrel
          have hbs := hb.size
          by_cases hlt : q < xss.length
          · have HCL := Lib.hid (maColumn_any a xss cap q wr (HX.out.below hb) (by omega) (fun k hk => by rw [HL.out k hk]; exact hlt))
            by_cases hm : mostTo (colL xss q) (colL xss q).length = 0
            · have H : Hid (mxB xss = false) := by
                rw [Hid, ← Bool.not_eq_true]
                intro h
                have := colG_of h hlt
                rw [colL_len] at hm
                exact this hm
              have HM := Lib.hid hm
              clear hm
              go_wp2_with fail
              refine HCL.out.mono ?_
              rintro e w2 ⟨a2, c2, rfl, hown, hb2⟩
              have HCC := Lib.hid (ivMost_any a2 (colL xss q) c2 w2 hown.rd)
              rw [HM.out, colL_len] at HCC
              go_wp2_with fail
              refine HCC.out.mono ?_
              rintro e w' ⟨rfl, rfl⟩
              go_wp2_with fail
              go_ret
              exact ⟨ret_bool H.out.symm, hb.trans (hb2.mono hbs)⟩
            · have HM : Hid (colG xss q) := by rw [Hid, colG]; rw [colL_len] at hm; exact hm
              obtain ⟨M, hM⟩ : ∃ M, M = mostTo (colL xss q) (colL xss q).length := ⟨_, rfl⟩
              have HMM := Lib.hid hM
              rw [← hM] at hm
              have hmm : (M == 0) = false := by simp [hm]
              clear hM hm
              go_wp2_with fail
              refine HCL.out.mono ?_
              rintro e w2 ⟨a2, c2, rfl, hown, hb2⟩
              have HCC := Lib.hid (ivMost_any a2 (colL xss q) c2 w2 hown.rd)
              rw [← HMM.out, colL_len] at HCC
              have hcell2 := (hb2.cell (p := ⟨w.heap.size, 0, none⟩) hsz).trans hcell
              have hs2 := hb2.size
              go_wp2_with fail
              refine HCC.out.mono ?_
              rintro e w' ⟨rfl, rfl⟩
              go_wp2_with fail
              go_roundw
              case rel =>
                refine ⟨q + 1, by omega, by go_num, fun j hj => ?_, hb.trans (hb2.mono hbs), hcell2, by omega⟩
                by_cases e : j = q
                · rw [e]; exact HM.out
                · exact HC.out j (by omega)
              case measure => simp [intOf]; omega
          · obtain rfl : q = xss.length := by omega
            have HS := Lib.hid (maSum_any a xss cap wr (HX.out.below hb) (by omega) HL.out HV.out)
            have H : Hid (decide (matS xss xss.length ≤ 12) = mxB xss) := (mx_of HR.out HC.out).symm
            have hge : -9223372036854775808 ≤ matS xss xss.length ∧ matS xss xss.length ≤ 9223372036854775807 ∨ True := .inr trivial
            go_wp2_with fail
            refine HS.out.mono ?_
            rintro e w2 ⟨rfl, hb2⟩
            go_wp2_with fail
            go_ret
            exact ⟨ret_bool H.out, hb.trans (hb2.mono hbs)⟩

theorem ret_ib' {a a' : Int} {b b' : Bool} (h1 : a = a') (h2 : b = b') : Ending.returned (.tuple #[.int .i64 a, .bool b]) = .returned (.tuple #[.int .i64 a', .bool b']) := by rw [h1, h2]

theorem sNamed_any (a : Option Addr) (xss : List (List Int)) (cap : Nat) (w : World) (hx : RdC w a xss) (hs : xss.length + totS xss xss.length ≤ 1048576) :
    Calls Try.prog 24 #[.agg #[.slice a xss.length cap]] w fun e w' => e = .returned (.tuple #[.int .i64 (nmV xss), .bool (mxB xss)]) ∧ Below w.heap.size w w' := by
  cases hm : mxB xss
  · have HM := Lib.hid hm
    have H1 : Hid (nmV xss = 0) := by simp [Hid, nmV, hm]
    clear hm
    go_enter Try.func24, Try.ntmps24
    go_wp2_with fail
    refine (maGood_any _ _ _ _ (hx.rd.below (by repeat (first | exact Below.refl _ _ | assumption | refine Below.alloc ?_ (by first | exact Nat.le_refl _ | (simp only [World.size_alloc, World.size_setCell, World.size_drew]; omega) | omega) _ | refine Below.setCell ?_ (by first | exact Nat.le_refl _ | (simp only [World.size_alloc, World.size_setCell, World.size_drew]; omega) | omega) _ | refine Below.drew ?_)))).mono ?_
    rintro e w1 ⟨rfl, hb⟩
    rw [HM.out]
    go_wp2_with fail
    go_ret2
    exact ⟨ret_ib' H1.out.symm rfl, Below.trans (by repeat (first | exact Below.refl _ _ | assumption | refine Below.alloc ?_ (by first | exact Nat.le_refl _ | (simp only [World.size_alloc, World.size_setCell, World.size_drew]; omega) | omega) _ | refine Below.setCell ?_ (by first | exact Nat.le_refl _ | (simp only [World.size_alloc, World.size_setCell, World.size_drew]; omega) | omega) _ | refine Below.drew ?_)) (hb.mono (by first | (simp only [World.size_alloc, World.size_setCell, World.size_drew]; omega) | omega))⟩
  · have HM := Lib.hid hm
    have H1 : Hid (nmV xss = ((nmM xss (matS xss xss.length).toNat xss.length).1 : Int)) := by simp [Hid, nmV, hm]
    clear hm
    go_enter Try.func24, Try.ntmps24
    go_wp2_with fail
    refine (maGood_any _ _ _ _ (hx.rd.below (by repeat (first | exact Below.refl _ _ | assumption | refine Below.alloc ?_ (by first | exact Nat.le_refl _ | (simp only [World.size_alloc, World.size_setCell, World.size_drew]; omega) | omega) _ | refine Below.setCell ?_ (by first | exact Nat.le_refl _ | (simp only [World.size_alloc, World.size_setCell, World.size_drew]; omega) | omega) _ | refine Below.drew ?_)))).mono ?_
    rintro e w1 ⟨rfl, hb⟩
    rw [HM.out]
    have ⟨hc, hf⟩ := bcell hb
    have b1 : Below w.heap.size w w1 := Below.trans (by repeat (first | exact Below.refl _ _ | assumption | refine Below.alloc ?_ (by first | exact Nat.le_refl _ | (simp only [World.size_alloc, World.size_setCell, World.size_drew]; omega) | omega) _ | refine Below.setCell ?_ (by first | exact Nat.le_refl _ | (simp only [World.size_alloc, World.size_setCell, World.size_drew]; omega) | omega) _ | refine Below.drew ?_)) (hb.mono (by first | (simp only [World.size_alloc, World.size_setCell, World.size_drew]; omega) | omega))
    clear hb
    have hc0 := (hc w.heap.size 0 (by simp)).trans (show _ = some (Value.slice a xss.length cap) by simp)
    have hs1 := b1.size
    go_wp2_with fail
    refine (stNamed_any _ _ _ _ (hx.below b1) HM.out).mono ?_
    rintro e w2 ⟨rfl, hb2⟩
    go_wp2_with fail
    go_ret2
    exact ⟨ret_ib' H1.out.symm rfl, b1.trans (hb2.mono hs1)⟩

theorem factorial_any (n : Nat) (w : World) (hn : n ≤ 12) :
    Calls Try.prog 45 #[.int .i64 (n : Int)] w fun e w' => e = .returned (.int .i64 (facN n : Nat)) ∧ w = w' := by
  have HS : Hid (∀ i, i ≤ n → facN i ≤ 479001600) := fun i hi => (fac_small (by omega)).1
  have HSC : Hid (∀ i, facN (i+1) = facN i * (i+1)) := fun i => rfl
  go_enter Try.func45, Try.ntmps45
  go_wp2_with fail
  go_loop [3, 6] (fun v i => ∃ t : Nat, t ≤ n ∧ i = .int .i64 t ∧ v = .int .i64 (facN t : Nat)) (fun _ i => n - (intOf i).toNat)
  case atStart => exact ⟨0, Nat.zero_le _, rfl, rfl⟩
  case round =>
    obtain ⟨t, ht, rfl, rfl⟩ := hrel
    by_cases hlt : t < n
    · have h1 := HS.out (t+1) (by omega)
      have h2 := HSC.out t
      have HN := Lib.hid h2
      rw [h2] at h1
      obtain ⟨c, hc⟩ : ∃ c, c = facN t := ⟨_, rfl⟩
      rw [← hc] at h1 HN ⊢
      have e2 : (c : Int) * ((t : Int) + 1) = ((c * (t + 1) : Nat) : Int) := by rw [Int.natCast_mul]; rfl
      obtain ⟨P, hP⟩ : ∃ P, P = c * (t + 1) := ⟨_, rfl⟩
      rw [← hP] at h1 e2 HN
      clear h2 hP hc
      go_wp2_with fail
      go_round
      case rel => exact ⟨t + 1, by omega, by go_num, by rw [HN.out]⟩
      case measure => simp [intOf]; omega
    · obtain rfl : t = n := by omega
      go_wp2_with fail
      go_ret
      exact ⟨rfl, rfl⟩

def addB (s x : Int) : Bool := decide (0 ≤ x) && decide (s + x ≤ 12)
theorem addB_iff {s x : Int} : addB s x = true ↔ 0 ≤ x ∧ s + x ≤ 12 := by simp [addB]
def addW (b : Nat) (s x : Int) (w : World) : World := if addB s x = true then w.setCell ⟨b, 0, none⟩ (.int .i64 (s + x)) else w
theorem iAdd_any (b : Nat) (s x : Int) (v : Value) (w : World) (hv : Var2 w b (.int .i64 s) v) (h0 : 0 ≤ s ∧ s ≤ 12) :
    Calls Try.prog 50 #[.pointer (some ⟨b, 0, none⟩), .int .i64 x] w fun e w' => e = .returned (.bool (addB s x)) ∧ w' = addW b s x w := by
  have ⟨⟨z, c, d⟩, f, g⟩ := hv
  by_cases h1 : x < 0
  · have H : Hid (addB s x = false) := by rw [Hid, ← Bool.not_eq_true, addB_iff]; omega
    go_enter Try.func50, Try.ntmps50
    go_wp2_with fail
    go_ret
    exact ⟨ret_bool H.out.symm, by rw [addW, H.out]; rfl⟩
  · by_cases h2 : 12 - s < x
    · have H : Hid (addB s x = false) := by rw [Hid, ← Bool.not_eq_true, addB_iff]; omega
      go_enter Try.func50, Try.ntmps50
      go_wp2_with fail
      go_ret
      exact ⟨ret_bool H.out.symm, by rw [addW, H.out]; rfl⟩
    · have H : Hid (addB s x = true) := addB_iff.2 (by omega)
      go_enter Try.func50, Try.ntmps50
      go_wp2_with fail
      go_ret
      exact ⟨ret_bool H.out.symm, by rw [addW, H.out]; rfl⟩

theorem infoSum : (Try.prog.info? 83).map (fun i => (i.zero, i.size, i.bytes)) = some (some (.agg #[.int .i64 0, .slice none 0 0]), 2, 32) := by kernel_rfl
theorem valAt_end (vl : List Value) (v : Value) : valAt (vl ++ [v]) vl.length = v := by
  simp [valAt]
/-- the cells of the first k rows, each with its sum ahead of it -/
def pcs (xss : List (List Int)) (vl : List Value) : Nat → List Value
  | 0 => []
  | k+1 => pcs xss vl k ++ [.int .i64 (totR (rowL xss k)), valAt vl k]
theorem pcs_len (xss : List (List Int)) (vl : List Value) : ∀ k, (pcs xss vl k).length = k * 2
  | 0 => rfl
  | k+1 => by rw [pcs, List.length_append, pcs_len xss vl k]; simp; omega
theorem pcs_at {xss : List (List Int)} {vl : List Value} {i : Nat} : ∀ {k : Nat}, i < k → (pcs xss vl k)[i * 2]? = some (.int .i64 (totR (rowL xss i))) ∧ (pcs xss vl k)[i * 2 + 1]? = some (valAt vl i)
  | 0, h => by omega
  | k+1, h => by
    have hl := pcs_len xss vl k
    by_cases e : i = k
    · subst e
      rw [pcs, List.getElem?_append_right (by omega), List.getElem?_append_right (by omega), hl]
      refine ⟨?_, ?_⟩
      · rw [Nat.sub_self]; rfl
      · rw [show i * 2 + 1 - i * 2 = 1 by omega]; rfl
    · rw [pcs, List.getElem?_append_left (by omega), List.getElem?_append_left (by omega)]
      exact pcs_at (by omega)
theorem rowL_app {xss yss : List (List Int)} {k : Nat} (h : k < xss.length) : rowL (xss ++ yss) k = rowL xss k := by
  rw [rowL, rowL, List.getD_eq_getElem?_getD, List.getD_eq_getElem?_getD, List.getElem?_append_left h]
theorem rowL_last (xss : List (List Int)) (r : List Int) : rowL (xss ++ [r]) xss.length = r := by
  simp [rowL]
theorem rowL_take {xss : List (List Int)} {j k : Nat} (h : j < k) : rowL (xss.take k) j = rowL xss j := by
  rw [rowL, rowL, List.getD_eq_getElem?_getD, List.getD_eq_getElem?_getD, List.getElem?_take, if_pos h]
theorem take_snocR {xss : List (List Int)} {k : Nat} (h : k < xss.length) : xss.take (k+1) = xss.take k ++ [rowL xss k] := by
  rw [List.take_succ_eq_append_getElem h]
  simp [rowL, h]
theorem pcs_congr {xss yss : List (List Int)} {vl ul : List Value} : ∀ {k : Nat}, (∀ j, j < k → rowL xss j = rowL yss j ∧ valAt vl j = valAt ul j) → pcs xss vl k = pcs yss ul k
  | 0, _ => rfl
  | k+1, h => by rw [pcs, pcs, pcs_congr (fun j hj => h j (by omega)), (h k (by omega)).1, (h k (by omega)).2]
/-- rows with their sums, each row in a block of its own -/
structure SumP (w : World) (B : Nat) (v : Value) (vl : List Value) (xss : List (List Int)) : Prop where
  own : w.ownsRow B 83 2 v xss.length (pcs xss vl xss.length)
  vlen : vl.length = xss.length
  row : ∀ k, k < xss.length → OwnI w B (valAt vl k) (rowL xss k)
  apart : ∀ k, k < xss.length → ∀ c, (valAt vl k).ownBlock = some c → v.ownBlock ≠ some c
  pair : ∀ j k, j < k → k < xss.length → ∀ c, (valAt vl j).ownBlock = some c → (valAt vl k).ownBlock ≠ some c
theorem SumP.nil (w : World) (B : Nat) : SumP w B (.slice none 0 0) [] [] :=
  ⟨World.ownsRow_nil _ _ _ _, rfl, fun k hk => by simp at hk, fun k hk => by simp at hk, fun j k _ hk => by simp at hk⟩
theorem SumP.form {w : World} {B : Nat} {v : Value} {vl : List Value} {xss : List (List Int)} (h : SumP w B v vl xss) : ∃ a cap, v = .slice a xss.length cap := by
  rcases h.own.2 with ⟨rfl, h0⟩ | ⟨g, cap, cur, rfl, _⟩
  · exact ⟨none, 0, by rw [h0]⟩
  · exact ⟨_, _, rfl⟩
theorem SumP.below {w w' : World} {B B' : Nat} {v : Value} {vl : List Value} {xss : List (List Int)} (h : SumP w B v vl xss) (hb : Below B' w w') (hB : w.heap.size ≤ B') : SumP w' B v vl xss :=
  ⟨ownsRow_bel h.own hb hB, h.vlen, fun k hk => (h.row k hk).below hb hB, h.apart, h.pair⟩
theorem SumP.lt {w : World} {B : Nat} {v : Value} {vl : List Value} {xss : List (List Int)} (h : SumP w B v vl xss) : ∀ b, v.ownBlock = some b → B ≤ b ∧ b < w.heap.size := World.ownsRow.lt h.own
theorem SumP.blk {w : World} {B : Nat} {v : Value} {vl : List Value} {xss : List (List Int)} (h : SumP w B v vl xss) : (∀ c, v.ownBlock = some c → c < w.heap.size) ∧ ∀ k, k < xss.length → ∀ c, (valAt vl k).ownBlock = some c → c < w.heap.size :=
  ⟨fun c e => (h.lt c e).2, fun k hk c e => ((h.row k hk).lt c e).2⟩
theorem SumP.mono {w : World} {B B' : Nat} {v : Value} {vl : List Value} {xss : List (List Int)} (h : SumP w B v vl xss) (hB : B' ≤ B) : SumP w B' v vl xss := by
  refine ⟨⟨h.own.1, ?_⟩, h.vlen, fun k hk => (h.row k hk).mono hB, h.apart, h.pair⟩
  rcases h.own.2 with hn | ⟨g, cap, cur, e, hb, rest⟩
  · exact .inl hn
  · exact .inr ⟨g, cap, cur, e, by omega, rest⟩
/-- the cells of a part -/
theorem SumP.at {w : World} {B n cap : Nat} {a : Option Addr} {vl : List Value} {xss : List (List Int)} (h : SumP w B (.slice a n cap) vl xss) {k : Nat} (hk : k < xss.length) : ∃ g, a = some ⟨g, 0, none⟩ ∧ g < w.heap.size ∧ w.cell? ⟨g, k * 2, none⟩ = some (.int .i64 (totR (rowL xss k))) ∧ w.cell? ⟨g, k * 2 + 1, none⟩ = some (valAt vl k) := by
  rcases h.own.2 with ⟨e, h0⟩ | ⟨g, cap3, cur, e, hb, hg, hn, hm, hs, ht⟩
  · omega
  · simp only [Value.slice.injEq] at e
    obtain ⟨rfl, rfl, rfl⟩ := e
    have ⟨h1, h2⟩ := pcs_at (xss := xss) (vl := vl) hk
    exact ⟨g, rfl, (Array.getElem?_eq_some_iff.1 hg).1, by rw [World.ownsRow.cellAt h.own (k*2) (by omega), h1], by rw [World.ownsRow.cellAt h.own (k*2+1) (by omega), h2]⟩
/-- one part more at the end -/
theorem SumP.snoc {w w' : World} {B C : Nat} {v v' : Value} {vl : List Value} {xss : List (List Int)} {u : Value} {r : List Int} (h : SumP w B v vl xss) (hr : OwnI w C u r) (hBC : B ≤ C) (hvC : ∀ c, v.ownBlock = some c → c < C) (hrC : ∀ k, k < xss.length → ∀ c, (valAt vl k).ownBlock = some c → c < C)
    (ho : w'.ownsRow B 83 2 v' (xss.length + 1) (pcs xss vl xss.length ++ [.int .i64 (totR r), u])) (hg : w.grownBy w' v.ownBlock) (hv' : v'.ownBlock = v.ownBlock ∨ ∃ m, w.heap.size ≤ m ∧ v'.ownBlock = some m) : SumP w' B v' (vl ++ [u]) (xss ++ [r]) := by
  have hl := h.vlen
  have e1 : ∀ k, k < xss.length → valAt (vl ++ [u]) k = valAt vl k := fun k hk => by rw [valAt, valAt, List.getD_eq_getElem?_getD, List.getD_eq_getElem?_getD, List.getElem?_append_left (by omega)]
  have e2 : valAt (vl ++ [u]) xss.length = u := by rw [← hl]; exact valAt_end vl u
  have hur := hr.lt
  refine ⟨?_, by simp [hl], fun k hk => ?_, fun k hk c hc hc2 => ?_, fun j k hjk hk c hc => ?_⟩
  · rw [List.length_append, List.length_singleton, pcs, e2, rowL_last, pcs_congr (yss := xss) (ul := vl) (fun j hj => ⟨rowL_app hj, e1 j hj⟩)]
    exact ho
  · rw [List.length_append, List.length_singleton] at hk
    by_cases e : k = xss.length
    · subst e
      rw [e2, rowL_last]
      exact (hr.mono hBC).kept hg (own_ne (fun c h1 h3 => by have := hvC c h3; have := (hur c h1).1; omega))
    · rw [e1 k (by omega), rowL_app (by omega)]
      exact (h.row k (by omega)).kept hg (own_ne (fun c h1 h3 => h.apart k (by omega) c h1 h3))
  · rw [List.length_append, List.length_singleton] at hk
    by_cases e : k = xss.length
    · subst e
      rw [e2] at hc
      have h1 := hur c hc
      rcases hv' with h3 | ⟨m, hm, h3⟩
      · rw [h3] at hc2; have := hvC c hc2; omega
      · rw [h3] at hc2; simp only [Option.some.injEq] at hc2; omega
    · rw [e1 k (by omega)] at hc
      have h1 := ((h.row k (by omega)).lt c hc).2
      rcases hv' with h3 | ⟨m, hm, h3⟩
      · rw [h3] at hc2; exact h.apart k (by omega) c hc hc2
      · rw [h3] at hc2; simp only [Option.some.injEq] at hc2; omega
  · rw [List.length_append, List.length_singleton] at hk
    rw [e1 j (by omega)] at hc
    by_cases e : k = xss.length
    · subst e
      rw [e2]
      intro h3
      have := hrC j (by omega) c hc
      have := (hur c h3).1
      omega
    · rw [e1 k (by omega)]
      exact h.pair j k hjk (by omega) c hc

/-- the first of two cells that may be written has been written -/
theorem Var2.set0 {w : World} {b : Nat} {u v : Value} (h : Var2 w b u v) (u' : Value) : Var2 (w.setCell ⟨b, 0, none⟩ u') b u' v := by
  refine ⟨⟨by simpa using h.1.1, ?_, ?_⟩, by simpa using h.2.1, by simpa using h.2.2⟩
  · rw [World.cell?_setCell_same _ _ _ h.1.2.1]
  · rw [World.cell?_setCell_other _ _ _ _ (by simp)]; exact h.1.2.2
def addV (s x : Int) : Int := if addB s x = true then s + x else s
theorem iPut_any (b : Nat) (s x : Int) (v : Value) (ys : List Int) (w : World) (hv : Var2 w b (.int .i64 s) v) (h0 : 0 ≤ s ∧ s ≤ 12) (ho : OwnI w (b+1) v ys) (h63 : ys.length ≤ 1048576) :
    Calls Try.prog 86 #[.pointer (some ⟨b, 0, none⟩), .int .i64 x, .int .i64 x] w fun e w' => e = .returned (.bool (addB s x)) ∧ ∃ v', Var2 w' b (.int .i64 (addV s x)) v' ∧ OwnI w' (b+1) v' (ys ++ [x]) ∧ Below b w w' := by
  have ⟨⟨z, c, d⟩, f, g⟩ := hv
  have HV := Lib.hid hv
  obtain ⟨av, cv, rfl⟩ := ho.form
  have HO := Lib.hid ho
  clear hv ho
  go_enter Try.func86, Try.ntmps86
  go_wp2_with (at_builtin; refine push_at rfl _ _ rfl (z := x) rfl HO.out rfl (by omega) (by omega) ?_)
  intro v3 w3 o3 hg hat
  have hU := HO.out.lt
  have hv3 := HV.out.kept hg (ne_own (fun c e => by have := (hU c e).1; omega))
  have b3 : Below b w w3 := below_of_grown hg (fun c e => by have := (hU c e).1; omega) (by omega)
  have ⟨⟨z3, c3, d3⟩, f3, g3⟩ := hv3
  clear hg hat hU
  obtain ⟨a3, k3, rfl⟩ := o3.form
  rw [show (ys ++ [x]).length = ys.length + 1 by simp] at o3 ⊢
  go_wp2_with fail
  have hv4 := hv3.set1 (.slice a3 (ys.length + 1) k3)
  refine (iAdd_any b s x _ _ hv4 h0).mono ?_
  rintro e w5 ⟨rfl, hw5⟩
  have H : Hid (∃ v', Var2 w5 b (.int .i64 (addV s x)) v' ∧ OwnI w5 (b+1) v' (ys ++ [x]) ∧ Below b w w5) := by
    rw [hw5, addW, addV]
    cases addB s x
    · exact ⟨.slice a3 (ys.length + 1) k3, by simpa using hv4, by simpa using o3.setBelow (show b < b + 1 by omega) _, by simpa using b3.setCell (Nat.le_refl _) _⟩
    · exact ⟨.slice a3 (ys.length + 1) k3, by simpa using hv4.set0 _, by simpa using (o3.setBelow (show b < b + 1 by omega) _).setBelow (show b < b + 1 by omega) _, by simpa using (b3.setCell (Nat.le_refl _) _).setCell (Nat.le_refl _) _⟩
  clear hw5 hv4
  go_wp2_with fail
  go_ret
  exact ⟨rfl, H.out⟩

set_option maxRecDepth 100000 in
theorem iPutS_any (b : Nat) (s x : Int) (v : Value) (vl : List Value) (xss : List (List Int)) (r : List Int) (ra : Option Addr) (rc B C : Nat) (w : World) (hv : Var2 w b (.int .i64 s) v) (h0 : 0 ≤ s ∧ s ≤ 12)
    (hp : SumP w B v vl xss) (hr : OwnI w C (.slice ra r.length rc) r) (hbB : b + 1 ≤ B) (hBC : B ≤ C) (hC : C ≤ w.heap.size) (hvC : ∀ c, v.ownBlock = some c → c < C) (hrC : ∀ k, k < xss.length → ∀ c, (valAt vl k).ownBlock = some c → c < C) (h63 : xss.length ≤ 1048576) :
    Calls Try.prog 87 #[.pointer (some ⟨b, 0, none⟩), .agg #[.int .i64 (totR r), .slice ra r.length rc], .int .i64 x] w fun e w' => e = .returned (.bool (addB s x)) ∧ ∃ v', Var2 w' b (.int .i64 (addV s x)) v' ∧ SumP w' B v' (vl ++ [.slice ra r.length rc]) (xss ++ [r]) ∧ Below b w w' := by
  obtain ⟨i0, hi, hz0, hz1, hz2⟩ := info_parts infoSum
  have ⟨⟨z, c, d⟩, f, g⟩ := hv
  have HV := Lib.hid hv
  obtain ⟨av, cv, rfl⟩ := hp.form
  have HP := Lib.hid hp
  have HR := Lib.hid hr
  have HB := Lib.hid hvC
  have HRB := Lib.hid hrC
  have Hown := Lib.hid (ownsRow_bel hp.own (w' := ((w.alloc (.cells #[.int .i64 (totR r), .slice ra r.length rc] 83)).alloc (.cells #[.int .i64 (totR r), .slice ra r.length rc] 83)).drew) ((((Below.refl _ _).alloc (Nat.le_refl _) _).alloc (by simp) _).drew) (Nat.le_refl _))
  have hnews := cell_two_new (w.alloc (.cells #[.int .i64 (totR r), .slice ra r.length rc] 83)) (.int .i64 (totR r)) (.slice ra r.length rc) 83
  simp only [World.size_alloc] at hnews
  have Hnews := Lib.hid hnews
  have hpl := pcs_len xss vl xss.length
  have HPL := Lib.hid hpl
  clear hv hp hr hnews hvC hrC hpl
  obtain ⟨PC, hPC⟩ : ∃ PC, PC = pcs xss vl xss.length := ⟨_, rfl⟩
  have HPC := Lib.hid hPC
  rw [← hPC] at Hown HPL
  clear hPC
  obtain ⟨T, hT⟩ : ∃ T, T = totR r := ⟨_, rfl⟩
  have HT := Lib.hid hT
  rw [← hT] at Hown Hnews ⊢
  clear hT
  go_enter Try.func87, Try.ntmps87
  go_wp2_with fail
  go_region_law (refine step_append_lies _ (by rfl) _ _ _ (by rfl) B 83 i0 (.agg #[.int .i64 0, .slice none 0 0]) 2 32 Try.underlying62 hi hz0 hz1 hz2 rfl (by omega) (.slice av xss.length cv) xss.length PC (by rfl) Hown.out ⟨w.heap.size + 1, 0, none⟩ 1 1 [.int .i64 T, .slice ra r.length rc] (by rfl) (by rfl) Hnews.out (by intro u hu; simp at hu; rcases hu with rfl | rfl <;> rfl) (by omega) (by unfold maxLen; omega) (by omega) (by simp; omega) (w.heap.size + 2) (by simp) ?_; intro gg cap3 w3 hown3 hgrow hat hlt3; have hg2 : w.grownBy w3 (Value.slice av xss.length cv).ownBlock := grown_alloc_set (grown_alloc_set (o := .cells #[.int .i64 T, .slice ra r.length rc] 83) ⟨hgrow.os, hgrow.tape, hgrow.output, hgrow.size, hgrow.block⟩); have hv3 := HV.out.kept hg2 (ne_own (fun c e => by have := (HP.out.lt c e).1; omega)); have ⟨⟨z3, c3, d3⟩, f3, g3⟩ := hv3)
  all_goals
    have hp3 : SumP w3 B (.slice (some ⟨gg, 0, none⟩) (xss.length + 1) cap3) (vl ++ [.slice ra r.length rc]) (xss ++ [r]) := by
      refine HP.out.snoc HR.out hBC HB.out HRB.out ?_ hg2 ?_
      · rw [← HPC.out, ← HT.out]; exact hown3
      · rcases hat with h | h
        · exact .inl (by rw [h]; rfl)
        · exact .inr ⟨gg, by omega, rfl⟩
    have b3 : Below b w w3 := below_of_grown hg2 (fun c e => by have := (HP.out.lt c e).1; omega) (by omega)
    have hv4 := hv3.set1 (.slice (some ⟨gg, 0, none⟩) (xss.length + 1) cap3)
    clear hown3 hgrow hat hg2
    go_wp2_with fail
    refine (iAdd_any b s x _ _ hv4 h0).mono ?_
    rintro e w5 ⟨rfl, hw5⟩
    have hset : ∀ (p : Addr) (u : Value) (w9 : World), p.block = b → SumP w9 B (.slice (some ⟨gg, 0, none⟩) (xss.length + 1) cap3) (vl ++ [.slice ra r.length rc]) (xss ++ [r]) → SumP (w9.setCell p u) B (.slice (some ⟨gg, 0, none⟩) (xss.length + 1) cap3) (vl ++ [.slice ra r.length rc]) (xss ++ [r]) := fun p u w9 e h =>
      ⟨ownsRow_setCell_below h.own (by rw [e]; omega) u, h.vlen, fun k hk => (h.row k hk).setBelow (by rw [e]; omega) u, h.apart, h.pair⟩
    have H : Hid (∃ v', Var2 w5 b (.int .i64 (addV s x)) v' ∧ SumP w5 B v' (vl ++ [.slice ra r.length rc]) (xss ++ [r]) ∧ Below b w w5) := by
      rw [hw5, addW, addV]
      cases addB s x
      · exact ⟨.slice (some ⟨gg, 0, none⟩) (xss.length + 1) cap3, by simpa using hv4, by simpa using hset _ _ _ rfl hp3, by simpa using b3.setCell (Nat.le_refl _) _⟩
      · exact ⟨.slice (some ⟨gg, 0, none⟩) (xss.length + 1) cap3, by simpa using hv4.set0 _, by simpa using hset _ _ _ rfl (hset _ _ _ rfl hp3), by simpa using (b3.setCell (Nat.le_refl _) _).setCell (Nat.le_refl _) _⟩
    clear hw5 hv4 hset hp3
    go_wp2_with fail
    go_ret
    exact ⟨rfl, H.out⟩

theorem add_ok {s x : Int} (h : addB s x = true) : addV s x = s + x := by rw [addV, if_pos h]
/-- the first k rows may be rows -/
def adTo (xss : List (List Int)) (k : Nat) : Prop := ∀ i, i < k → (∀ j, j < (rowL xss i).length → 0 ≤ nth (rowL xss i) j) ∧ 0 < totR (rowL xss i)
theorem ad_no_num {xss : List (List Int)} {k j : Nat} (hk : k < xss.length) (hj : j < (rowL xss k).length) (hpre : ∀ i, i < j → 0 ≤ nth (rowL xss k) i) (h : addB (totI (rowL xss k) j) (nth (rowL xss k) j) = false) : adB xss = false := by
  rw [← Bool.not_eq_true]
  intro h2
  have ⟨h3, h4⟩ := adB_iff.1 h2
  have h5 := (adB_row h2 hk).2
  have h6 := totI_mono (xs := rowL xss k) (j := j + 1) (k := (rowL xss k).length) (by omega) (h3 k hk).1
  rw [totR] at h5
  rw [totI] at h6
  rw [← Bool.not_eq_true, addB_iff] at h
  exact h ⟨(h3 k hk).1 j hj, by omega⟩
theorem ad_no_row {xss : List (List Int)} {k : Nat} (hk : k < xss.length) (h : addB (matS xss k) (totR (rowL xss k)) = false) : adB xss = false := by
  rw [← Bool.not_eq_true]
  intro h2
  have ⟨h3, h4⟩ := adB_iff.1 h2
  have h5 := adB_row h2 hk
  have h6 := matS_mono (xss := xss) (j := k + 1) (k := xss.length) (by omega) (fun i hi => by have := (h3 i hi).2; omega)
  rw [matS] at h6
  rw [← Bool.not_eq_true, addB_iff] at h
  exact h ⟨by omega, by omega⟩
set_option maxRecDepth 100000 in
set_option maxHeartbeats 1000000 in
theorem iAddUp_any (a : Option Addr) (xss : List (List Int)) (cap : Nat) (w : World) (hx : RdS w a xss) (hs : xss.length + totS xss xss.length ≤ 1048576) :
    Calls Try.prog 73 #[.slice a xss.length cap] w fun e w' => ∃ s va vn vc, e = .returned (.tuple #[.agg #[.int .i64 s, .slice va vn vc], .bool (adB xss)]) ∧ (adB xss = true → s = matS xss xss.length ∧ ∃ vl, SumP w' w.heap.size (.slice va vn vc) vl xss) ∧ Below w.heap.size w w' := by
  have hlen := hx.len
  have HX := Lib.hid hx
  have HS := Lib.hid hs
  go_enter Try.func73, Try.ntmps73
  clear hx hs
  go_wp2_with fail
  go_loopw [12] (fun i wr => ∃ (k : Nat) (v : Value) (vl : List Value), k ≤ xss.length ∧ i = .int .i64 k ∧ Hid (adTo xss k) ∧ 0 ≤ matS xss k ∧ matS xss k ≤ 12 ∧ Var2 wr w.heap.size (.int .i64 0) (.slice none 0 0) ∧ Var2 wr (w.heap.size + 1) (.int .i64 (matS xss k)) v ∧ SumP wr (w.heap.size + 2) v vl (xss.take k) ∧ Below w.heap.size w wr) (fun i _ => xss.length - (intOf i).toNat)
  case atStart => exact ⟨0, .slice none 0 0, [], Nat.zero_le _, rfl, fun j hj => by omega, by simp [matS], by simp [matS], (Var2.new w _ _ _).alloc _, by have h := Var2.new (w.alloc (.cells #[.int .i64 0, .slice none 0 0] 64)) (.int .i64 0) (.slice none 0 0) 64; rw [World.size_alloc] at h; exact h, by rw [List.take_zero]; exact SumP.nil _ _, (by repeat (first | exact Below.refl _ _ | assumption | refine Below.alloc ?_ (by first | exact Nat.le_refl _ | (simp only [World.size_alloc, World.size_setCell, World.size_drew]; omega) | omega) _ | refine Below.setCell ?_ (by first | exact Nat.le_refl _ | (simp only [World.size_alloc, World.size_setCell, World.size_drew]; omega) | omega) _ | refine Below.drew ?_))⟩
  case round =>
    obtain ⟨k, v, vl, hk, rfl, HAD, hm0, hm1, hR, hA, hp, hb⟩ := hrel
    have ⟨av, cv, ev⟩ := hp.form
    obtain ⟨LK, hLK⟩ : ∃ LK, LK = (xss.take k).length := ⟨_, rfl⟩
    rw [← hLK] at ev
    subst ev
    clear hLK
    have hbs := hb.size
    have ⟨⟨zR, cR, dR⟩, fR, gR⟩ := hR
    have ⟨⟨zA, cA, dA⟩, fA, gA⟩ := hA
    have HR := Lib.hid hR
    have HA := Lib.hid hA
    have HP := Lib.hid hp
    by_cases hlt : k < xss.length
    · obtain ⟨b, off, a', cap', rfl, hbl, hc, hr⟩ := (HX.out.below hb).row k hlt
      have k1 : (k : Int) < (xss.length : Int) := by omega
      have hrl := hr.len
      have hrt := row_tot (xss := xss) hlt
      have hrow : (rowL xss k).length ≤ 1048576 := by have := HS.out; omega
      have HRD := Lib.hid hr
      have HT : Hid (xss.take (k+1) = xss.take k ++ [rowL xss k]) := take_snocR hlt
      have HTL : Hid ((xss.take k).length = k) := by rw [Hid, List.length_take]; omega
      have HNR : Hid (∀ j, j < (rowL xss k).length → (∀ i, i < j → 0 ≤ nth (rowL xss k) i) → addB (totI (rowL xss k) j) (nth (rowL xss k) j) = false → adB xss = false) := fun j hj => ad_no_num hlt hj
      have HNM : Hid (addB (matS xss k) (totR (rowL xss k)) = false → adB xss = false) := ad_no_row hlt
      have HNZ : Hid (totR (rowL xss k) = 0 → adB xss = false) := fun h => by
        rw [← Bool.not_eq_true]; intro h2
        have := (adB_row h2 hlt).1; omega
      have HMN : Hid (matS xss (k+1) = matS xss k + totR (rowL xss k)) := rfl
      have HGD : Hid ((∀ j, j < (rowL xss k).length → 0 ≤ nth (rowL xss k) j) → 0 < totR (rowL xss k) → adTo xss (k+1)) := fun h1 h2 i hi => by
        by_cases e : i = k
        · rw [e]; exact ⟨h1, h2⟩
        · exact HAD.out i (by omega)
      obtain ⟨R, hR9⟩ : ∃ R, R = rowL xss k := ⟨_, rfl⟩
      rw [← hR9] at hc hrl hrow HRD HT HNR HNM HNZ HMN HGD
      obtain ⟨M, hM9⟩ : ∃ M, M = matS xss k := ⟨_, rfl⟩
      rw [← hM9] at hm0 hm1 HA cA HNM HMN
      clear hr hrt hR9 hM9 hR hA hp HAD
      obtain ⟨W1, hW1⟩ : ∃ x : World, x = wr := ⟨_, rfl⟩
      subst hW1
      go_wp2_with fail
      go_loopw [18] (fun i wr => ∃ (j : Nat) (u : Value), j ≤ R.length ∧ i = .int .i64 j ∧ Hid (∀ i, i < j → 0 ≤ nth R i) ∧ 0 ≤ totI R j ∧ totI R j ≤ 12 ∧ Var2 wr W1.heap.size (.int .i64 (totI R j)) u ∧ OwnI wr (W1.heap.size + 1) u (R.take j) ∧ Below W1.heap.size W1 wr) (fun i _ => R.length - (intOf i).toNat)
      case atStart => exact ⟨0, .slice none 0 0, Nat.zero_le _, rfl, fun j hj => by omega, by simp [totI], by simp [totI], Var2.new W1 _ _ _, by rw [List.take_zero]; exact OwnI.nil _ _, (by repeat (first | exact Below.refl _ _ | assumption | refine Below.alloc ?_ (by first | exact Nat.le_refl _ | (simp only [World.size_alloc, World.size_setCell, World.size_drew]; omega) | omega) _ | refine Below.setCell ?_ (by first | exact Nat.le_refl _ | (simp only [World.size_alloc, World.size_setCell, World.size_drew]; omega) | omega) _ | refine Below.drew ?_))⟩
      case round =>
        obtain ⟨j, u, hj, rfl, HNN, ht0, ht1, hQ, ho, hbq⟩ := hrel
        have hbqs := hbq.size
        have ⟨⟨zQ, cQ, dQ⟩, fQ, gQ⟩ := hQ
        have hR2 := HR.out.below hbq
        have hA2 := HA.out.below hbq
        have ⟨⟨zR2, cR2, dR2⟩, fR2, gR2⟩ := hR2
        have ⟨⟨zA2, cA2, dA2⟩, fA2, gA2⟩ := hA2
        have HR2 := Lib.hid hR2
        have HA2 := Lib.hid hA2
        clear hR2 hA2
        by_cases hlt2 : j < R.length
        · obtain ⟨b2, off2, rfl, hbl2, hc2⟩ := (HRD.out.below hbq).cell j hlt2
          have j1 : (j : Int) < (R.length : Int) := by omega
          have htk : R.take (j+1) = R.take j ++ [nth R j] := by
            rw [List.take_succ_eq_append_getElem hlt2, nth_get _ _ hlt2]
          have HTK := Lib.hid htk
          have hlj : (R.take j).length ≤ 1048576 := by rw [List.length_take]; omega
          have HTI : Hid (totI R (j+1) = totI R j + nth R j) := rfl
          have HNF := Lib.hid (HNR.out j hlt2 HNN.out)
          obtain ⟨Z, hZ⟩ : ∃ Z, Z = nth R j := ⟨_, rfl⟩
          have HZ := Lib.hid hZ
          rw [← hZ] at hc2 HTK HTI HNF
          obtain ⟨S, hS⟩ : ∃ S, S = totI R j := ⟨_, rfl⟩
          rw [← hS] at ht0 ht1 cQ hQ HTI HNF
          have HQ := Lib.hid hQ
          have HO := Lib.hid ho
          have hPut := iPut_any W1.heap.size S Z u (R.take j) wr HQ.out ⟨ht0, ht1⟩ HO.out hlj
          have HPUT := Lib.hid hPut
          clear htk hZ hS hQ ho hPut
          cases had : addB S Z
          · have H := HNF.out had
            have HF := Lib.hid had
            have HH := Lib.hid H
            clear had H
            go_wp2_with fail
            refine HPUT.out.mono ?_
            rintro e w5 ⟨rfl, v5, hv5, ho5, hb5⟩
            rw [HF.out]
            have b5 : Below W1.heap.size W1 w5 := hbq.trans hb5
            have hR5 := HR.out.below b5
            have hA5 := HA.out.below b5
            have ⟨⟨zR5, cR5, dR5⟩, fR5, gR5⟩ := hR5
            have ⟨⟨zA5, cA5, dA5⟩, fA5, gA5⟩ := hA5
            have bw5 := hb.trans (b5.mono hbs)
            clear hv5 ho5 hb5
            go_wp2_with fail
            have hR7 := hR5.set (.int .i64 M) (.slice av LK cv)
            have b7 := (bw5.setCell (p := ⟨w.heap.size, 0, none⟩) (Nat.le_refl _) (.int .i64 M)).setCell (p := ⟨w.heap.size, 1, none⟩) (Nat.le_refl _) (.slice av LK cv)
            refine bodyPost_ret (v := .tuple #[.agg #[.int .i64 M, .slice av LK cv], .bool false]) (by have ⟨⟨_, q1, q2⟩, _, _⟩ := hR7; simp [results, Try.results73, go_sem, q1, q2]) rfl ?_
            exact ⟨M, av, LK, cv, by rw [HH.out], (by intro h; rw [HH.out] at h; cases h), b7⟩
          · have hge := addB_iff.1 had
            have HF := Lib.hid had
            have HV := Lib.hid (add_ok had)
            clear had HNF
            go_wp2_with fail
            refine HPUT.out.mono ?_
            rintro e w5 ⟨rfl, v5, hv5, ho5, hb5⟩
            rw [HF.out]
            rw [HV.out] at hv5
            have b5 : Below W1.heap.size W1 w5 := hbq.trans hb5
            go_wp2_with fail
            go_roundw
            case rel =>
              refine ⟨j + 1, v5, by omega, by go_num, fun i hi => ?_, by rw [HTI.out]; omega, by rw [HTI.out]; omega, by rw [HTI.out]; exact hv5, by rw [HTK.out]; exact ho5, b5⟩
              by_cases e : i = j
              · rw [e, ← HZ.out]; omega
              · exact HNN.out i (by omega)
            case measure => simp [intOf]; omega
        · obtain rfl : j = R.length := by omega
          have HTR : Hid (totI R R.length = totR R) := rfl
          rw [HTR.out] at ht0 ht1 cQ hQ
          rw [List.take_length] at ho
          obtain ⟨au, cu, rfl⟩ := ho.form
          have HO := Lib.hid ho
          have HP2 := Lib.hid (HP.out.below hbq (Nat.le_refl _))
          obtain ⟨S, hS⟩ : ∃ S, S = totR R := ⟨_, rfl⟩
          have HSS := Lib.hid hS
          rw [← hS] at ht0 ht1 cQ hQ HNM HNZ HMN HGD
          have HQ := Lib.hid hQ
          have hlk : (xss.take k).length ≤ 1048576 := by rw [HTL.out]; have := HS.out; omega
          have bwq := hb.trans (hbq.mono hbs)
          clear hS hQ ho
          by_cases hz : S = 0
          · have hzz : (S == 0) = true := by simp [hz]
            have HH := Lib.hid (HNZ.out hz)
            clear hz
            go_wp2_with fail
            have hR7 := HR2.out.set (.int .i64 M) (.slice av LK cv)
            have b7 := (bwq.setCell (p := ⟨w.heap.size, 0, none⟩) (Nat.le_refl _) (.int .i64 M)).setCell (p := ⟨w.heap.size, 1, none⟩) (Nat.le_refl _) (.slice av LK cv)
            refine bodyPost_ret (v := .tuple #[.agg #[.int .i64 M, .slice av LK cv], .bool false]) (by have ⟨⟨_, q1, q2⟩, _, _⟩ := hR7; simp [results, Try.results73, go_sem, q1, q2]) rfl ?_
            exact ⟨M, av, LK, cv, by rw [HH.out], (by intro h; rw [HH.out] at h; cases h), b7⟩
          · have hzz : (S == 0) = false := by simp [hz]
            have hPut := iPutS_any (w.heap.size + 1) M S (.slice av LK cv) vl (xss.take k) R au cu (w.heap.size + 2) (W1.heap.size + 1) wr HA2.out ⟨hm0, hm1⟩ HP2.out HO.out (by omega) (by omega) (by omega) (fun c e => by have := HP.out.blk.1 c e; omega) (fun i hi c e => by have := HP.out.blk.2 i hi c e; omega) hlk
            rw [← HSS.out] at hPut
            have HPUT := Lib.hid hPut
            clear hPut
            cases had : addB M S
            · have HF := Lib.hid had
              have HH := Lib.hid (HNM.out had)
              clear had hz
              go_wp2_with fail
              refine HPUT.out.mono ?_
              rintro e w5 ⟨rfl, v5, hv5, ho5, hb5⟩
              rw [HF.out]
              have ⟨⟨zA5, cA5, dA5⟩, fA5, gA5⟩ := hv5
              have hR5 : Var2 w5 w.heap.size (.int .i64 0) (.slice none 0 0) := ⟨⟨by have := hb5.size; omega, (hb5.cell (p := ⟨w.heap.size, 0, none⟩) (show w.heap.size < w.heap.size + 1 by omega)).trans cR2, (hb5.cell (p := ⟨w.heap.size, 1, none⟩) (show w.heap.size < w.heap.size + 1 by omega)).trans dR2⟩, (hb5.frozen (p := ⟨w.heap.size, 0, none⟩) (show w.heap.size < w.heap.size + 1 by omega)).trans fR2, (hb5.frozen (p := ⟨w.heap.size, 1, none⟩) (show w.heap.size < w.heap.size + 1 by omega)).trans gR2⟩
              have ⟨⟨zR5, cR5, dR5⟩, fR5, gR5⟩ := hR5
              have bw5 := bwq.trans (hb5.mono (by omega : w.heap.size ≤ w.heap.size + 1))
              obtain ⟨D, hD⟩ : ∃ D, D = addV M S := ⟨_, rfl⟩
              rw [← hD] at cA5
              obtain ⟨a5, c5, e5⟩ := ho5.form
              obtain ⟨L5, hL5⟩ : ∃ L5, L5 = (xss.take k ++ [R]).length := ⟨_, rfl⟩
              rw [← hL5] at e5
              rw [e5] at dA5
              clear hL5 e5
              clear hv5 ho5 hb5 hD
              go_wp2_with fail
              have hR7 := hR5.set (.int .i64 D) (.slice a5 L5 c5)
              have b7 := (bw5.setCell (p := ⟨w.heap.size, 0, none⟩) (Nat.le_refl _) (.int .i64 D)).setCell (p := ⟨w.heap.size, 1, none⟩) (Nat.le_refl _) (.slice a5 L5 c5)
              refine bodyPost_ret (v := .tuple #[.agg #[.int .i64 D, .slice a5 L5 c5], .bool false]) (by have ⟨⟨_, q1, q2⟩, _, _⟩ := hR7; simp [results, Try.results73, go_sem, q1, q2]) rfl ?_
              exact ⟨D, a5, L5, c5, by rw [HH.out], (by intro h; rw [HH.out] at h; cases h), b7⟩
            · have hge := addB_iff.1 had
              have HF := Lib.hid had
              have HV := Lib.hid (add_ok had)
              clear had
              go_wp2_with fail
              refine HPUT.out.mono ?_
              rintro e w5 ⟨rfl, v5, hv5, ho5, hb5⟩
              rw [HF.out]
              rw [HV.out] at hv5
              have hR5 : Var2 w5 w.heap.size (.int .i64 0) (.slice none 0 0) := ⟨⟨by have := hb5.size; omega, (hb5.cell (p := ⟨w.heap.size, 0, none⟩) (show w.heap.size < w.heap.size + 1 by omega)).trans cR2, (hb5.cell (p := ⟨w.heap.size, 1, none⟩) (show w.heap.size < w.heap.size + 1 by omega)).trans dR2⟩, (hb5.frozen (p := ⟨w.heap.size, 0, none⟩) (show w.heap.size < w.heap.size + 1 by omega)).trans fR2, (hb5.frozen (p := ⟨w.heap.size, 1, none⟩) (show w.heap.size < w.heap.size + 1 by omega)).trans gR2⟩
              have bw5 := bwq.trans (hb5.mono (by omega : w.heap.size ≤ w.heap.size + 1))
              have HG2 := Lib.hid (HGD.out HNN.out (by omega))
              go_wp2_with fail
              go_roundw
              case rel => exact ⟨k + 1, v5, _, by omega, by go_num, HG2.out, by rw [HMN.out]; omega, by rw [HMN.out]; omega, hR5, by rw [HMN.out]; exact hv5, by rw [HT.out]; exact ho5, bw5⟩
              case measure => simp [intOf]; omega
    · obtain rfl : k = xss.length := by omega
      have HH : Hid (adB xss = true) := adB_iff.2 ⟨HAD.out, hm1⟩
      obtain ⟨M, hM9⟩ : ∃ M, M = matS xss xss.length := ⟨_, rfl⟩
      have HM := Lib.hid hM9
      rw [← hM9] at hm0 hm1 HA cA
      clear hM9 hR hA hp
      go_wp2_with fail
      have hR7 := HR.out.set (.int .i64 M) (.slice av LK cv)
      have b7 := (hb.setCell (p := ⟨w.heap.size, 0, none⟩) (Nat.le_refl _) (.int .i64 M)).setCell (p := ⟨w.heap.size, 1, none⟩) (Nat.le_refl _) (.slice av LK cv)
      refine bodyPost_ret (v := .tuple #[.agg #[.int .i64 M, .slice av LK cv], .bool true]) (by have ⟨⟨_, q1, q2⟩, _, _⟩ := hR7; simp [results, Try.results73, go_sem, q1, q2]) rfl ?_
      refine ⟨M, av, LK, cv, by rw [HH.out], fun _ => ⟨HM.out, vl, ?_⟩, b7⟩
      have h := HP.out
      rw [List.take_length] at h
      have hset : ∀ (p : Addr) (u : Value) (w9 : World), p.block = w.heap.size → SumP w9 (w.heap.size + 2) (.slice av LK cv) vl xss → SumP (w9.setCell p u) (w.heap.size + 2) (.slice av LK cv) vl xss := fun p u w9 e h =>
        ⟨ownsRow_setCell_below h.own (by rw [e]; omega) u, h.vlen, fun k hk => (h.row k hk).setBelow (by rw [e]; omega) u, h.apart, h.pair⟩
      exact (hset _ _ _ rfl (hset _ _ _ rfl h)).mono (by omega)

/-- the rows of n times m numbers -/
def sqM (f : Nat → Nat → Int) (n m : Nat) : List (List Int) := (List.range n).map fun i => fmap (f i) m
theorem sqM_len (f : Nat → Nat → Int) (n m : Nat) : (sqM f n m).length = n := by simp [sqM]
theorem sqM_row {f : Nat → Nat → Int} {n m i : Nat} (h : i < n) : rowL (sqM f n m) i = fmap (f i) m := by simp [sqM, rowL, h]
theorem sqM_rlen {f : Nat → Nat → Int} {n m i : Nat} (h : i < n) : (rowL (sqM f n m) i).length = m := by rw [sqM_row h, fmap_len]
theorem sqM_at {f : Nat → Nat → Int} {n m i j : Nat} (hi : i < n) (hj : j < m) : atM (sqM f n m) i j = f i j := by rw [atM, sqM_row hi, fmap_nth _ hj]
theorem rowL_get {xss : List (List Int)} {i : Nat} (h : i < xss.length) : xss[i]? = some (rowL xss i) := by simp [rowL, h]
theorem fmap_ext {f g : Nat → Int} {k : Nat} (h : ∀ i, i < k → f i = g i) : fmap f k = fmap g k := by
  simp only [fmap]
  exact List.map_congr_left (fun i hi => h i (List.mem_range.1 hi))
theorem sqM_congr {f g : Nat → Nat → Int} {n m : Nat} (h : ∀ i, i < n → ∀ j, j < m → f i j = g i j) : sqM f n m = sqM g n m := by
  simp only [sqM]
  exact List.map_congr_left (fun i hi => fmap_ext (fun j hj => h i (List.mem_range.1 hi) j hj))
theorem list_fmap (xs : List Int) : xs = fmap (nth xs) xs.length := by
  apply List.ext_getElem?
  intro i
  by_cases h : i < xs.length
  · simp [fmap, h, nth]
  · simp [fmap, h]
theorem rows_ext {xss yss : List (List Int)} (hl : xss.length = yss.length) (h : ∀ i, i < xss.length → rowL xss i = rowL yss i) : xss = yss := by
  apply List.ext_getElem?
  intro i
  by_cases hi : i < xss.length
  · rw [rowL_get hi, rowL_get (by omega), h i hi]
  · rw [List.getElem?_eq_none (by omega), List.getElem?_eq_none (by omega)]
theorem sq_eta {xss : List (List Int)} {m : Nat} (h : ∀ i, i < xss.length → (rowL xss i).length = m) : xss = sqM (atM xss) xss.length m := by
  refine rows_ext (by rw [sqM_len]) (fun i hi => ?_)
  rw [sqM_row hi, ← h i hi]
  exact list_fmap _
/-- one number of the rows changed -/
def setM (xss : List (List Int)) (i j : Nat) (x : Int) : List (List Int) := xss.set i ((rowL xss i).set j x)
theorem setM_len (xss : List (List Int)) (i j : Nat) (x : Int) : (setM xss i j x).length = xss.length := by simp [setM]
theorem setM_row {xss : List (List Int)} {i j k : Nat} {x : Int} (h : i < xss.length) : rowL (setM xss i j x) k = if k = i then (rowL xss i).set j x else rowL xss k := by
  simp only [setM, rowL, List.getD_eq_getElem?_getD, List.getElem?_set]
  by_cases e : i = k
  · subst e; simp [h]
  · simp [e, Ne.symm e]
theorem nth_setM {xs : List Int} {i j : Nat} {x : Int} (hi : i < xs.length) : nth (xs.set i x) j = if j = i then x else nth xs j := by
  simp only [nth, List.getD_eq_getElem?_getD, List.getElem?_set]
  by_cases h : i = j
  · subst h; simp [hi]
  · simp [h, Ne.symm h]
theorem setM_sq {f : Nat → Nat → Int} {n m i j : Nat} {x : Int} (hi : i < n) (hj : j < m) : setM (sqM f n m) i j x = sqM (fun a b => if a = i ∧ b = j then x else f a b) n m := by
  refine rows_ext (by rw [setM_len, sqM_len, sqM_len]) (fun k hk => ?_)
  rw [setM_len, sqM_len] at hk
  rw [setM_row (by rw [sqM_len]; exact hi), sqM_row hk, sqM_row hk]
  split
  · rename_i e
    subst e
    rw [sqM_row hi, list_fmap ((fmap (f k) m).set j x)]
    simp only [List.length_set, fmap_len]
    refine fmap_ext (fun b hb => ?_)
    rw [nth_setM (by rw [fmap_len]; exact hj), fmap_nth _ hb]
    by_cases e2 : b = j
    · simp [e2]
    · simp [e2]
  · rename_i e
    exact fmap_ext (fun b hb => by rw [if_neg (fun h => e h.1)])
/-- the outer row of rows that have been made -/
theorem RowsP.outer {w : World} {B n c : Nat} {a : Option Addr} {vl : List Value} {xss : List (List Int)} (h : RowsP w B (.slice a n c) vl xss) {k : Nat} (hk : k < xss.length) : ∃ g, a = some ⟨g, 0, none⟩ ∧ B ≤ g ∧ g < w.heap.size ∧ w.cell? ⟨g, k, none⟩ = some (valAt vl k) ∧ w.frozen? ⟨g, k, none⟩ = false := by
  have hl := h.o.vlen
  rcases h.o.own.2 with ⟨e, h0⟩ | ⟨g, cap3, cur, e, hb, hg, _⟩
  · omega
  · simp only [Value.slice.injEq] at e
    obtain ⟨rfl, rfl, rfl⟩ := e
    exact ⟨g, rfl, hb, (Array.getElem?_eq_some_iff.1 hg).1, by rw [World.ownsRow.cellAt h.o.own k (by omega), valAt_get (by omega)], World.ownsRow.frozenAt h.o.own k⟩
theorem own_nb {v : Value} {b : Nat} (h : ∀ c, v.ownBlock = some c → c ≠ b) : v.ownBlock = none ∨ v.ownBlock ≠ some b := by
  cases hv : v.ownBlock with
  | none => exact .inl rfl
  | some c => exact .inr (fun e => h c hv (by simpa using e))
/-- a number of the rows that may be written -/
theorem RowsP.num {w : World} {B : Nat} {v : Value} {vl : List Value} {xss : List (List Int)} (h : RowsP w B v vl xss) {i j : Nat} (hi : i < xss.length) (hj : j < (rowL xss i).length) : ∃ g c, valAt vl i = .slice (some ⟨g, 0, none⟩) (rowL xss i).length c ∧ B ≤ g ∧ g < w.heap.size ∧ w.cell? ⟨g, j, none⟩ = some (.int .i64 (atM xss i j)) ∧ w.frozen? ⟨g, j, none⟩ = false ∧
    ∀ x : Int, RowsP (w.setCell ⟨g, j, none⟩ (.int .i64 x)) B v vl (setM xss i j x) := by
  have hr := h.o.row i hi
  rcases hr.2 with ⟨e, h0⟩ | ⟨g, cap3, cur, e, hb, hg, _⟩
  · omega
  · refine ⟨g, cap3, e, hb, (Array.getElem?_eq_some_iff.1 hg).1, ?_, ?_, fun x => ?_⟩
    · have h2 := hr.form
      rw [e] at hr
      rw [World.ownsRow.cellAt hr j (by omega)]
      simp [atM, nth, hj]
    · rw [e] at hr
      exact World.ownsRow.frozenAt hr j
    · have hgr := grown_set w ⟨g, j, none⟩ (.int .i64 x)
      refine ⟨⟨?_, fun k hk => ?_, fun k hk => ?_⟩, fun a b h1 h2 => ?_⟩
      · rw [setM_len]
        refine World.ownsRow.kept h.o.own hgr (own_nb (fun c h1 h2 => ?_))
        simp only at h2
        subst h2
        exact h.o.apart i hi c (by rw [e]; rfl) h1
      · rw [setM_len] at hk
        rw [setM_row hi]
        split
        · rename_i e2
          subst e2
          rw [e] at hr ⊢
          have h3 := (World.ownsRow.stored hr j (.int .i64 x)).1
          unfold OwnI
          rw [List.length_set, List.map_set]
          exact h3
        · rename_i e2
          refine (h.o.row k hk).kept hgr (own_nb (fun c h1 h2 => ?_))
          simp only at h2
          subst h2
          have h4 : (valAt vl i).ownBlock = some c := by rw [e]; rfl
          rcases Nat.lt_or_gt_of_ne e2 with h5 | h5
          · exact h.pair k i h5 hi c h1 h4
          · exact h.pair i k h5 hk c h4 h1
      · rw [setM_len] at hk
        exact h.o.apart k hk
      · rw [setM_len] at h2
        exact h.pair a b h1 h2

set_option maxRecDepth 100000 in
theorem isUpper_any (a : Option Addr) (xss : List (List Int)) (cap : Nat) (w : World) (hx : RdC w a xss) :
    Calls Try.prog 74 #[.agg #[.slice a xss.length cap]] w fun e w' => e = .returned (.bool (upB xss)) ∧ Below w.heap.size w w' := by
  have hlen := hx.rd.len
  have HX := Lib.hid hx
  have b1 : Below w.heap.size w (w.alloc (.cells #[.slice a xss.length cap] 29)) := (by repeat (first | exact Below.refl _ _ | assumption | refine Below.alloc ?_ (by first | exact Nat.le_refl _ | (simp only [World.size_alloc, World.size_setCell, World.size_drew]; omega) | omega) _ | refine Below.setCell ?_ (by first | exact Nat.le_refl _ | (simp only [World.size_alloc, World.size_setCell, World.size_drew]; omega) | omega) _ | refine Below.drew ?_))
  clear hx
  go_enter Try.func74, Try.ntmps74
  go_wp2_with fail
  go_loop [10] (fun i => ∃ k : Nat, k ≤ xss.length ∧ i = .int .i64 k ∧ Hid (∀ j, j < k → (rowL xss j).length = xss.length ∧ ∀ q, q < j → atM xss j q = 0)) (fun i => xss.length - (intOf i).toNat)
  case atStart => exact ⟨0, Nat.zero_le _, rfl, fun j hj => by omega⟩
  case round =>
    obtain ⟨k, hk, rfl, HA⟩ := hrel
    by_cases hlt : k < xss.length
    · obtain ⟨b, off, a', cap', rfl, hbl, hc, hr, hcp⟩ := (HX.out.below b1).row hlt
      have k1 : (k : Int) < (xss.length : Int) := by omega
      by_cases hq : (rowL xss k).length = xss.length
      · have hqq : (((rowL xss k).length : Int) != (xss.length : Int)) = false := by simp [hq]
        have HQ := Lib.hid hq
        obtain ⟨b2, off2, rfl, hbl2, hc2⟩ := hr.cell 0 (by omega)
        have HR := Lib.hid hr
        have k2 : k ≤ cap' := by omega
        have k3 : k ≤ (rowL xss k).length := by omega
        have hrl := hr.len
        clear hq hr hc2
        go_wp2_with fail
        go_loop [25] (fun i => ∃ q : Nat, q ≤ k ∧ i = .int .i64 q ∧ Hid (∀ j, j < q → atM xss k j = 0)) (fun i => k - (intOf i).toNat)
        case atStart => exact ⟨0, Nat.zero_le _, rfl, fun j hj => by omega⟩
        case round =>
          obtain ⟨q, hq2, rfl, HU⟩ := hrel
          by_cases hlt2 : q < k
          · obtain ⟨b3, off3, e3, hbl3, hc3⟩ := HR.out.cell q (by omega)
            simp only [Option.some.injEq, Addr.mk.injEq, and_true] at e3
            obtain ⟨rfl, rfl⟩ := e3
            have q1 : (q : Int) < (k : Int) := by omega
            by_cases hz : nth (rowL xss k) q = 0
            · have hzz : (nth (rowL xss k) q != 0) = false := by simp [hz]
              have HZ : Hid (atM xss k q = 0) := hz
              clear hz
              go_wp2_with fail
              go_round
              case rel =>
                refine ⟨q + 1, by omega, by go_num, fun j hj => ?_⟩
                by_cases e : j = q
                · rw [e]; exact HZ.out
                · exact HU.out j (by omega)
              case measure => simp [intOf]; omega
            · have hzz : (nth (rowL xss k) q != 0) = true := by simp [hz]
              have H : Hid (upB xss = false) := by
                rw [Hid, ← Bool.not_eq_true, upB_iff]
                intro h
                exact hz ((h k hlt).2 q hlt2)
              clear hz
              go_wp2_with fail
              go_ret
              exact ⟨ret_bool H.out.symm, (by repeat (first | exact Below.refl _ _ | assumption | refine Below.alloc ?_ (by first | exact Nat.le_refl _ | (simp only [World.size_alloc, World.size_setCell, World.size_drew]; omega) | omega) _ | refine Below.setCell ?_ (by first | exact Nat.le_refl _ | (simp only [World.size_alloc, World.size_setCell, World.size_drew]; omega) | omega) _ | refine Below.drew ?_))⟩
          · obtain rfl : q = k := by omega
            go_wp2_with fail
            go_round
            case rel =>
              refine ⟨q + 1, by omega, by go_num, fun j hj => ?_⟩
              by_cases e : j = q
              · rw [e]; exact ⟨HQ.out, HU.out⟩
              · exact HA.out j (by omega)
            case measure => simp [intOf]; omega
      · have hqq : (((rowL xss k).length : Int) != (xss.length : Int)) = true := by simp; omega
        have H : Hid (upB xss = false) := by
          rw [Hid, ← Bool.not_eq_true, upB_iff]
          intro h
          exact hq (h k hlt).1
        clear hq hr
        go_wp2_with fail
        go_ret
        exact ⟨ret_bool H.out.symm, (by repeat (first | exact Below.refl _ _ | assumption | refine Below.alloc ?_ (by first | exact Nat.le_refl _ | (simp only [World.size_alloc, World.size_setCell, World.size_drew]; omega) | omega) _ | refine Below.setCell ?_ (by first | exact Nat.le_refl _ | (simp only [World.size_alloc, World.size_setCell, World.size_drew]; omega) | omega) _ | refine Below.drew ?_))⟩
    · obtain rfl : k = xss.length := by omega
      have H : Hid (upB xss = true) := upB_iff.2 HA.out
      go_wp2_with fail
      go_ret
      exact ⟨ret_bool H.out.symm, (by repeat (first | exact Below.refl _ _ | assumption | refine Below.alloc ?_ (by first | exact Nat.le_refl _ | (simp only [World.size_alloc, World.size_setCell, World.size_drew]; omega) | omega) _ | refine Below.setCell ?_ (by first | exact Nat.le_refl _ | (simp only [World.size_alloc, World.size_setCell, World.size_drew]; omega) | omega) _ | refine Below.drew ?_))⟩

/-- a row of m integers of which the first k are filled, f 0 .. -/
def rowF (f : Nat → Int) (m k : Nat) : List Int := fmap f k ++ List.replicate (m - k) 0
theorem rowF_len (f : Nat → Int) {m k : Nat} (h : k ≤ m) : (rowF f m k).length = m := by simp [rowF, fmap_len]; omega
theorem rowF_set (f : Nat → Int) {m k : Nat} (h : k < m) : (rowF f m k).set k (f k) = rowF f m (k+1) := by
  apply List.ext_getElem?
  intro j
  rw [List.getElem?_set]
  by_cases hj : k = j
  · subst hj
    rw [if_pos rfl, if_pos (by rw [rowF_len f (by omega)]; exact h), rowF, List.getElem?_append_left (by rw [fmap_len]; omega)]
    simp [fmap]
  · simp only [hj, if_false, rowF, List.getElem?_append, fmap_len, List.getElem?_replicate]
    by_cases h1 : j < k
    · have h2 : j < k + 1 := by omega
      simp [h1, h2, fmap]
    · have h2 : ¬ j < k + 1 := by omega
      have h3 : j - k < m - k ↔ j - (k+1) < m - (k+1) := by omega
      simp [h1, h2, h3]
theorem rowF_zero (f : Nat → Int) {m k : Nat} (h : k < m) : (rowF f m k).set k 0 = rowF f m k := by
  apply List.ext_getElem?
  intro j
  rw [List.getElem?_set]
  by_cases hj : k = j
  · subst hj
    rw [if_pos rfl, if_pos (by rw [rowF_len f (by omega)]; exact h), rowF, List.getElem?_append_right (by rw [fmap_len]; omega)]
    rw [fmap_len, Nat.sub_self, List.getElem?_replicate, if_pos (by omega)]
  · simp [hj]
theorem rowF_end (f : Nat → Int) (m : Nat) : rowF f m m = fmap f m := by simp [rowF]
theorem made_row {w1 : World} {B : Nat} {v : Value} {m : Nat} (f : Nat → Int) (h : w1.ownsRow B 3 1 v m (madeCells (Value.int .i64 0).cells (m * 1)).toList) : OwnI w1 B v (rowF f m 0) := by
  unfold OwnI
  rw [rowF_len f (Nat.zero_le _)]
  simpa [Value.cells, toList_madeCells_one, fmap, rowF] using h

theorem below_grown_none {w w' : World} {B : Nat} (h : w.grownBy w' none) (hB : B ≤ w.heap.size) : Below B w w' :=
  below_of_grown (v := .slice none 0 0) h (fun b e => by simp [Value.ownBlock] at e) hB

/-- a new row has been put into rows that have been made -/
theorem RowsP.putRow {w : World} {B : Nat} {v u : Value} {vl : List Value} {xss : List (List Int)} {r : List Int} (h : RowsP w B v vl xss) {k : Nat} (hk : k < xss.length) (hu : OwnI w B u r) (hne : ∀ c, u.ownBlock = some c → v.ownBlock ≠ some c ∧ ∀ j, j < xss.length → j ≠ k → (valAt vl j).ownBlock ≠ some c) :
    ∃ g c, v = .slice (some ⟨g, 0, none⟩) xss.length c ∧ B ≤ g ∧ g < w.heap.size ∧ (∃ z, w.cell? ⟨g, k, none⟩ = some z) ∧ w.frozen? ⟨g, k, none⟩ = false ∧ RowsP (w.setCell ⟨g, k, none⟩ u) B v (vl.set k u) (xss.set k r) := by
  have hl := h.o.vlen
  rcases h.o.own.2 with ⟨e, h0⟩ | ⟨g, cap3, cur, e, hb, hg, _⟩
  · omega
  · subst e
    have h1 := World.ownsRow.cellAt h.o.own k (by omega)
    have hgr := grown_set w ⟨g, k, none⟩ u
    have hval : ∀ j, valAt (vl.set k u) j = if j = k then u else valAt vl j := by
      intro j
      simp only [valAt, List.getD_eq_getElem?_getD, List.getElem?_set]
      by_cases e : k = j
      · subst e; simp [show k < vl.length by omega]
      · simp [e, Ne.symm e]
    have hrow : ∀ j, j < xss.length → rowL (xss.set k r) j = if j = k then r else rowL xss j := by
      intro j hj
      simp only [rowL, List.getD_eq_getElem?_getD, List.getElem?_set]
      by_cases e : k = j
      · subst e; simp [hk]
      · simp [e, Ne.symm e]
    refine ⟨g, cap3, rfl, hb, (Array.getElem?_eq_some_iff.1 hg).1, ⟨_, by rw [h1, valAt_get (by omega)]⟩, World.ownsRow.frozenAt h.o.own k, ⟨⟨?_, fun j hj => ?_, fun j hj c hc => ?_⟩, fun i j hij hj c hc => ?_⟩⟩
    · rw [List.length_set]
      exact (World.ownsRow.stored h.o.own k u).1
    · rw [List.length_set] at hj
      rw [hval, hrow j hj]
      by_cases e : j = k
      · rw [if_pos e, if_pos e]
        exact hu.kept hgr (own_nb (fun c h1 h2 => (hne c h1).1 (by rw [h2]; rfl)))
      · rw [if_neg e, if_neg e]
        exact (h.o.row j hj).kept hgr (own_nb (fun c h1 h2 => h.o.apart j hj c h1 (by rw [h2]; rfl)))
    · rw [List.length_set] at hj
      rw [hval] at hc
      by_cases e : j = k
      · rw [if_pos e] at hc; exact (hne c hc).1
      · rw [if_neg e] at hc; exact h.o.apart j hj c hc
    · rw [List.length_set] at hj
      rw [hval] at hc ⊢
      by_cases e : j = k
      · rw [if_pos e]
        rw [if_neg (by omega)] at hc
        intro h2
        exact (hne c h2).2 i (by omega) (by omega) hc
      · rw [if_neg e]
        by_cases e2 : i = k
        · rw [if_pos e2] at hc
          exact (hne c hc).2 j hj e
        · rw [if_neg e2] at hc
          exact h.pair i j hij hj c hc
theorem infoRow0 : (Try.prog.info? 26).map (fun i => (i.zero, i.size, i.bytes)) = some (some (.slice none 0 0), 1, 24) := by kernel_rfl
/-- the rows of nil that a make has made -/
theorem RowsP.made {w : World} {B n : Nat} {g : Nat} (h : w.ownsRow B 26 1 (.slice (some ⟨g, 0, none⟩) n n) n (List.replicate n (.slice none 0 0))) : RowsP w B (.slice (some ⟨g, 0, none⟩) n n) (List.replicate n (.slice none 0 0)) (List.replicate n []) := by
  have hv : ∀ k, k < n → valAt (List.replicate n (.slice none 0 0)) k = .slice none 0 0 := fun k hk => by simp [valAt, List.getD_eq_getElem?_getD, hk]
  refine ⟨⟨by rw [List.length_replicate]; exact h, fun k hk => ?_, fun k hk c hc => ?_⟩, fun j k hjk hk c hc => ?_⟩
  · rw [List.length_replicate] at hk
    rw [hv k hk]
    have : rowL (List.replicate n []) k = [] := by simp [rowL, hk]
    rw [this]
    exact OwnI.nil _ _
  · rw [List.length_replicate] at hk
    rw [hv k hk] at hc
    cases hc
  · rw [List.length_replicate] at hk
    rw [hv j (by omega)] at hc
    cases hc
/-- k rows of zeros, and rows of nil behind them -/
def zTo (n k : Nat) : List (List Int) := (List.range n).map fun i => if i < k then List.replicate n 0 else []
theorem zTo_len (n k : Nat) : (zTo n k).length = n := by simp [zTo]
theorem zTo_row {n k i : Nat} (h : i < n) : rowL (zTo n k) i = if i < k then List.replicate n 0 else [] := by simp [zTo, rowL, h]
theorem zTo_zero (n : Nat) : zTo n 0 = List.replicate n [] := by
  refine rows_ext (by simp [zTo]) (fun i hi => ?_)
  rw [zTo_len] at hi
  rw [zTo_row hi]
  simp [rowL, hi]
theorem zTo_end (n : Nat) : zTo n n = sqM (fun _ _ => 0) n n := by
  refine rows_ext (by rw [zTo_len, sqM_len]) (fun i hi => ?_)
  rw [zTo_len] at hi
  rw [zTo_row hi, sqM_row hi, if_pos hi]
  apply List.ext_getElem?
  intro j
  by_cases h : j < n <;> simp [fmap, h]
theorem zTo_step {n k : Nat} (h : k < n) : (zTo n k).set k (List.replicate n 0) = zTo n (k+1) := by
  refine rows_ext (by simp [zTo]) (fun i hi => ?_)
  rw [List.length_set, zTo_len] at hi
  rw [zTo_row hi]
  have : rowL ((zTo n k).set k (List.replicate n 0)) i = if i = k then List.replicate n 0 else rowL (zTo n k) i := by
    simp only [rowL, List.getD_eq_getElem?_getD, List.getElem?_set]
    by_cases e : k = i
    · subst e; simp [zTo_len, h]
    · simp [e, Ne.symm e]
  rw [this, zTo_row hi]
  by_cases e : i = k
  · rw [if_pos e, if_pos (by omega)]
  · rw [if_neg e]
    by_cases e2 : i < k
    · rw [if_pos e2, if_pos (by omega)]
    · rw [if_neg e2, if_neg (by omega)]
set_option maxRecDepth 100000 in
theorem zeroRows_any (n : Nat) (w : World) (hn : n ≤ 12) :
    Calls Try.prog 40 #[.int .i64 (n : Int)] w fun e w' => ∃ g vl, e = .returned (.slice (some ⟨g, 0, none⟩) n n) ∧ RowsP w' w.heap.size (.slice (some ⟨g, 0, none⟩) n n) vl (sqM (fun _ _ => 0) n n) ∧ Below w.heap.size w w' := by
  obtain ⟨i0, hi, hz0, hz1, hz2⟩ := info_parts infoInt
  obtain ⟨j0, hj0, hy0, hy1, hy2⟩ := info_parts infoRow0
  go_enter Try.func40, Try.ntmps40
  go_wp2_with (at_make; refine wpList_make_full _ rfl (.tmp 5) (.tmp 5) 22 rfl w.heap.size 26 j0 (.slice none 0 0) 1 Try.underlying22 hj0 hy0 hy1 .i64 .i64 _ _ n rfl rfl rfl rfl (by rw [hy2]; omega) (by unfold maxLen; omega) (Nat.le_refl _) ?_; intro w1 hown hgrow)
  have hb0 : Below w.heap.size w w1 := (Below.refl _ _).grown hgrow (Nat.le_refl _) (fun k h => by cases h)
  have hro : RowsP w1 w.heap.size (.slice (some ⟨w.heap.size, 0, none⟩) n n) (List.replicate n (.slice none 0 0)) (zTo n 0) := by
    rw [zTo_zero]
    exact RowsP.made (by simpa [Value.cells, toList_madeCells_one] using hown)
  clear hown hgrow
  obtain ⟨G, hG⟩ : ∃ G, G = w.heap.size := ⟨_, rfl⟩
  have HG := Lib.hid hG
  rw [← hG] at hro ⊢
  have hGG : w.heap.size ≤ G := by omega
  have hb0' : Below w.heap.size w w1 := hb0
  clear hG hb0
  have HRO := Lib.hid hro
  have hzs := (by have := hb0'.size; omega : w.heap.size ≤ w1.heap.size)
  clear hro
  go_wp2_with fail
  go_loopw [9] (fun i wr => ∃ (k : Nat) (vl : List Value), k ≤ n ∧ i = .int .i64 k ∧ RowsP wr w.heap.size (.slice (some ⟨G, 0, none⟩) n n) vl (zTo n k) ∧ Below w.heap.size w wr) (fun i _ => n - (intOf i).toNat)
  case atStart => exact ⟨0, _, Nat.zero_le _, rfl, by rw [← HG.out]; exact HRO.out, hb0'⟩
  case round =>
    obtain ⟨k, vl, hk, rfl, hro, hb⟩ := hrel
    have hbs := hb.size
    have HR := Lib.hid hro
    by_cases hlt : k < n
    · obtain ⟨W1, hW1⟩ : ∃ x : World, x = wr := ⟨_, rfl⟩
      subst hW1
      have k1 : (k : Int) < (n : Int) := by omega
      clear hro
      go_wp2_with (
        at_make
        refine wpList_make_full _ rfl (.tmp 14) (.tmp 14) 26 rfl W1.heap.size 3 i0 (.int .i64 0) 1 Try.underlying26 hi hz0 hz1 .i64 .i64 _ _ n rfl rfl rfl rfl (by rw [hz2]; omega) (by unfold maxLen; omega) (Nat.le_refl _) ?_
        intro w2 hown2 hgrow2
        have b2 : Below W1.heap.size W1 w2 := (Below.refl _ _).grown hgrow2 (Nat.le_refl _) (fun k h => by cases h)
        have o2 : OwnI w2 W1.heap.size (.slice (some ⟨W1.heap.size, 0, none⟩) n n) (List.replicate n 0) := by
          have h := made_row (fun _ => 0) hown2
          simpa [rowF, fmap] using h
        have hro2 := HR.out.below b2 (Nat.le_refl _)
        have hbk := HR.out.blk
        obtain ⟨g9, c9, e9, hg1, hg2, ⟨z9, hz9⟩, hf9, hnew⟩ := hro2.putRow (k := k) (r := List.replicate n 0) (by rw [zTo_len]; exact hlt) (o2.mono hbs) (fun c hc => by
          simp only [Value.ownBlock, Option.some.injEq] at hc
          subst hc
          exact ⟨fun h => by have := hbk.1 _ h; omega, fun j hj hne h => by have := hbk.2 j hj _ h; omega⟩)
        simp only [Value.slice.injEq, Option.some.injEq, Addr.mk.injEq, and_true] at e9
        obtain ⟨rfl, -, -⟩ := e9
        rw [zTo_step hlt] at hnew
        have HN := Lib.hid hnew
        have bw2 := hb.trans (b2.mono hbs)
        have bw3 := bw2.setCell (p := ⟨G, k, none⟩) hg1 (.slice (some ⟨W1.heap.size, 0, none⟩) n n)
        clear hown2 hgrow2 hnew o2 hro2 hbk)
      go_roundw
      case rel => exact ⟨k + 1, _, by omega, by go_num, HN.out, bw3⟩
      case measure => simp [intOf]; omega
    · obtain rfl : k = n := by omega
      rw [zTo_end] at HR
      clear hro
      go_wp2_with fail
      go_ret
      exact ⟨G, vl, rfl, HR.out, hb⟩

theorem colsL_sq (xss : List (List Int)) : colsL xss = sqM (fun a b => atM xss b a) xss.length xss.length := rfl

def colF (xss : List (List Int)) (k q : Nat) (a b : Nat) : Int := if b < k ∨ (b = k ∧ a < q) then atM xss b a else 0
theorem colF_end {xss : List (List Int)} {n : Nat} : sqM (colF xss n 0) n n = sqM (fun a b => atM xss b a) n n :=
  sqM_congr (fun a ha b hb => by rw [colF, if_pos (.inl hb)])
theorem colF_next {xss : List (List Int)} {n k : Nat} : sqM (colF xss k n) n n = sqM (colF xss (k+1) 0) n n :=
  sqM_congr (fun a ha b hb => by
    rw [colF, colF]
    by_cases h : b < k + 1
    · rw [if_pos (by omega), if_pos (.inl h)]
    · rw [if_neg (by omega), if_neg (by omega)])
theorem colF_zero {xss : List (List Int)} {n : Nat} : sqM (fun _ _ => 0) n n = sqM (colF xss 0 0) n n :=
  sqM_congr (fun a ha b hb => by rw [colF, if_neg (by omega)])
theorem colF_step {xss : List (List Int)} {n k q : Nat} (hk : k < n) (hq : q < n) : setM (sqM (colF xss k q) n n) q k (atM xss k q) = sqM (colF xss k (q+1)) n n := by
  rw [setM_sq hq hk]
  refine sqM_congr (fun a ha b hb => ?_)
  rw [colF, colF]
  by_cases h : a = q ∧ b = k
  · obtain ⟨rfl, rfl⟩ := h
    rw [if_pos ⟨rfl, rfl⟩, if_pos (.inr ⟨rfl, by omega⟩)]
  · rw [if_neg h]
    by_cases h2 : b < k ∨ (b = k ∧ a < q)
    · rw [if_pos h2, if_pos (by omega)]
    · rw [if_neg h2, if_neg (by omega)]
set_option maxRecDepth 100000 in
set_option maxHeartbeats 1000000 in
theorem columnsOf_any (a : Option Addr) (xss : List (List Int)) (cap : Nat) (w : World) (hx : RdS w a xss) (h12 : xss.length ≤ 12) (hl : ∀ k, k < xss.length → (rowL xss k).length = xss.length) :
    Calls Try.prog 75 #[.agg #[.slice a xss.length cap]] w fun e w' => ∃ g vl, e = .returned (.slice (some ⟨g, 0, none⟩) xss.length xss.length) ∧ RowsP w' w.heap.size (.slice (some ⟨g, 0, none⟩) xss.length xss.length) vl (colsL xss) ∧ Below w.heap.size w w' := by
  have hlen := hx.len
  have HX := Lib.hid hx
  have HL := Lib.hid hl
  clear hx hl
  go_enter Try.func75, Try.ntmps75
  go_wp2_with fail
  refine (zeroRows_any xss.length _ h12).mono ?_
  rintro e w1 ⟨g, vl0, rfl, hro0, hb0⟩
  have b1 : Below w.heap.size w w1 := Below.trans (by repeat (first | exact Below.refl _ _ | assumption | refine Below.alloc ?_ (by first | exact Nat.le_refl _ | (simp only [World.size_alloc, World.size_setCell, World.size_drew]; omega) | omega) _ | refine Below.setCell ?_ (by first | exact Nat.le_refl _ | (simp only [World.size_alloc, World.size_setCell, World.size_drew]; omega) | omega) _ | refine Below.drew ?_)) (hb0.mono (by first | (simp only [World.size_alloc, World.size_setCell, World.size_drew]; omega) | omega))
  have hro1 := hro0.mono (B' := w.heap.size) (by simp)
  rw [colF_zero (xss := xss)] at hro1
  have hc0 := (hb0.cell (p := ⟨w.heap.size, 0, none⟩) (by simp)).trans (show _ = some (Value.slice a xss.length cap) by simp)
  have hs1 := b1.size
  obtain ⟨N, hN⟩ : ∃ N, N = xss.length := ⟨_, rfl⟩
  have HN := Lib.hid hN
  rw [← hN] at hlen h12 hro1 hc0 ⊢
  have HRO := Lib.hid hro1
  clear hro0 hro1 hb0 hN
  go_wp2_with fail
  go_loopw [15] (fun i wr => ∃ (k : Nat) (vl : List Value), k ≤ N ∧ i = .int .i64 k ∧ RowsP wr w.heap.size (.slice (some ⟨g, 0, none⟩) N N) vl (sqM (colF xss k 0) N N) ∧ Below w.heap.size w wr) (fun i _ => N - (intOf i).toNat)
  case atStart => exact ⟨0, _, Nat.zero_le _, rfl, HRO.out, b1⟩
  case round =>
    obtain ⟨k, vl, hk, rfl, hro, hb⟩ := hrel
    have hbs := hb.size
    have HR := Lib.hid hro
    clear hro
    by_cases hlt : k < N
    · obtain ⟨b, off, a', cap', rfl, hbl, hc, hr⟩ := HX.out.row k (by rw [← HN.out]; exact hlt)
      have hrn := HL.out k (by rw [← HN.out]; exact hlt)
      rw [← HN.out] at hrn
      obtain ⟨b2, off2, rfl, hbl2, hc2⟩ := hr.cell 0 (by omega)
      rw [hrn] at hc
      have hc1 := (hb.cell (p := ⟨b, off + k, none⟩) hbl).trans hc
      have HRN := Lib.hid hrn
      have HRD := Lib.hid hr
      have hbl1 : b < wr.heap.size := by omega
      have k1 : (k : Int) < (N : Int) := by omega
      clear hrn hr hc2 hc
      go_wp2_with fail
      go_loopw [22] (fun i wq => ∃ (q : Nat) (vl : List Value), q ≤ N ∧ i = .int .i64 q ∧ RowsP wq w.heap.size (.slice (some ⟨g, 0, none⟩) N N) vl (sqM (colF xss k q) N N) ∧ Below w.heap.size w wq) (fun i _ => N - (intOf i).toNat)
      case atStart => exact ⟨0, _, Nat.zero_le _, rfl, HR.out, hb⟩
      case round =>
        obtain ⟨q, vl2, hq, rfl, hro2, hb2⟩ := hrel
        by_cases hlt2 : q < N
        · obtain ⟨b3, off3, e3, hbl3, hc3⟩ := (HRD.out.below hb2).cell q (by rw [HRN.out]; exact hlt2)
          simp only [Option.some.injEq, Addr.mk.injEq, and_true] at e3
          obtain ⟨rfl, rfl⟩ := e3
          obtain ⟨g4, e4, hg4, hg5, hc4, hf4⟩ := hro2.outer (k := q) (by rw [sqM_len]; exact hlt2)
          simp only [Option.some.injEq, Addr.mk.injEq, and_true] at e4
          subst e4
          obtain ⟨g6, c6, e6, hg6, hg7, hc6, hf6, hnew⟩ := hro2.num (i := q) (j := k) (by rw [sqM_len]; exact hlt2) (by rw [sqM_rlen hlt2]; exact hlt)
          have hn2 := hnew (atM xss k q)
          rw [colF_step hlt hlt2] at hn2
          rw [e6, sqM_rlen hlt2] at hc4
          have HN2 := Lib.hid hn2
          have q1 : (q : Int) < (N : Int) := by omega
          have hat : nth (rowL xss k) q = atM xss k q := rfl
          rw [hat] at hc3
          have b7 := hb2.setCell (p := ⟨g6, k, none⟩) hg6 (.int .i64 (atM xss k q))
          clear hro2 hnew hn2 hat e6
          go_wp2_with fail
          go_roundw
          case rel => exact ⟨q + 1, vl2, by omega, by go_num, HN2.out, b7⟩
          case measure => simp [intOf]; omega
        · obtain rfl : q = N := by omega
          rw [colF_next] at hro2
          go_wp2_with fail
          go_roundw
          case rel => exact ⟨k + 1, _, by omega, by go_num, hro2, hb2⟩
          case measure => simp [intOf]; omega
    · obtain rfl : k = N := by omega
      have HR2 := HR.out
      rw [colF_end] at HR2
      have HE : Hid (colsL xss = sqM (fun a b => atM xss b a) k k) := by rw [Hid, colsL_sq, ← HN.out]
      have HR3 := Lib.hid HR2
      clear HR2
      go_wp2_with fail
      go_ret
      exact ⟨g, vl, by rw [← HN.out]; rfl, by rw [HE.out, ← HN.out]; exact HR3.out, hb⟩

theorem totS_sq {f : Nat → Nat → Int} {n m : Nat} : ∀ {k : Nat}, k ≤ n → totS (sqM f n m) k = k * m
  | 0, _ => by simp [totS]
  | k+1, h => by rw [totS, totS_sq (by omega), sqM_rlen (by omega), Nat.succ_mul]
theorem sq_small {f : Nat → Nat → Int} {n : Nat} (h : n ≤ 13) : (sqM f n n).length + totS (sqM f n n) (sqM f n n).length ≤ 1048576 := by
  rw [sqM_len, totS_sq (Nat.le_refl _)]
  have := Nat.mul_le_mul h h
  omega
set_option maxRecDepth 100000 in
set_option maxHeartbeats 1000000 in
theorem rowsOf_any (a : Option Addr) (xss : List (List Int)) (cap : Nat) (w : World) (hx : RdC w a xss) (hs : xss.length + totS xss xss.length ≤ 1048576) :
    Calls Try.prog 49 #[.agg #[.slice a xss.length cap]] w fun e w' => ∃ s va vn vc, e = .returned (.tuple #[.agg #[.int .i64 s, .slice va vn vc], .bool (mxB xss)]) ∧ (mxB xss = true → s = matS xss xss.length ∧ ∃ vl, SumP w' w.heap.size (.slice va vn vc) vl xss) ∧ Below w.heap.size w w' := by
  have hlen := hx.rd.len
  have HX := Lib.hid hx
  have HS := Lib.hid hs
  clear hx hs
  go_enter Try.func49, Try.ntmps49
  obtain ⟨W0, hW0⟩ : ∃ x : World, x = (w.alloc (.cells #[.slice a xss.length cap] 29)).alloc (.cells #[.int .i64 0, .slice none 0 0] 64) := ⟨_, rfl⟩
  have HW0 := Lib.hid hW0
  have b0 : Below w.heap.size w W0 := by rw [hW0]; exact (by repeat (first | exact Below.refl _ _ | assumption | refine Below.alloc ?_ (by first | exact Nat.le_refl _ | (simp only [World.size_alloc, World.size_setCell, World.size_drew]; omega) | omega) _ | refine Below.setCell ?_ (by first | exact Nat.le_refl _ | (simp only [World.size_alloc, World.size_setCell, World.size_drew]; omega) | omega) _ | refine Below.drew ?_))
  have c0 : W0.cell? ⟨w.heap.size, 0, none⟩ = some (.slice a xss.length cap) := by rw [hW0]; simp
  have hR0 : Var2 W0 (w.heap.size + 1) (.int .i64 0) (.slice none 0 0) := by
    have h := Var2.new (w.alloc (.cells #[.slice a xss.length cap] 29)) (.int .i64 0) (.slice none 0 0) 64
    rw [World.size_alloc] at h
    rw [hW0]; exact h
  have hz0 : w.heap.size + 2 = W0.heap.size := by rw [hW0]; simp
  have HCALL := Lib.hid (iAddUp_any a xss cap W0 (HX.out.below b0).rd HS.out)
  rw [hW0] at HCALL
  clear hW0
  go_wp2_with fail
  refine HCALL.out.mono ?_
  rintro e w1 ⟨s, va, vn, vc, rfl, hok, hb1⟩
  rw [← HW0.out] at hok hb1
  have b1 : Below w.heap.size w w1 := b0.trans (hb1.mono (by omega))
  have c1 := (hb1.cell (p := ⟨w.heap.size, 0, none⟩) (show w.heap.size < W0.heap.size by omega)).trans c0
  have hR1 := hR0.below hb1
  have hs1 := hb1.size
  clear hb1 b0 c0 hR0 HCALL HW0
  obtain ⟨W2, hW2⟩ : ∃ x : World, x = w1.alloc (.cells #[.int .i64 s, .slice va vn vc] 64) := ⟨_, rfl⟩
  have HW2 := Lib.hid hW2
  have bb2 : Below w1.heap.size w1 W2 := by rw [hW2]; exact (by repeat (first | exact Below.refl _ _ | assumption | refine Below.alloc ?_ (by first | exact Nat.le_refl _ | (simp only [World.size_alloc, World.size_setCell, World.size_drew]; omega) | omega) _ | refine Below.setCell ?_ (by first | exact Nat.le_refl _ | (simp only [World.size_alloc, World.size_setCell, World.size_drew]; omega) | omega) _ | refine Below.drew ?_))
  have b2 : Below w.heap.size w W2 := b1.trans (bb2.mono b1.size)
  have hA2 : Box2 W2 w1.heap.size (.int .i64 s) (.slice va vn vc) := by rw [hW2]; exact Box2.new _ _ _ _
  have hR2 := hR1.below bb2
  have c2 := (bb2.cell (p := ⟨w.heap.size, 0, none⟩) (show w.heap.size < w1.heap.size by omega)).trans c1
  have hs2 : w1.heap.size ≤ W2.heap.size := bb2.size
  clear hR1 c1
  subst hW2
  have ⟨zA2, cA2, dA2⟩ := hA2
  have ⟨⟨zR2, cR2, dR2⟩, fR2, gR2⟩ := hR2
  cases had : adB xss
  · have HF := Lib.hid had
    have HM : Hid (mxB xss = false) := by simp [Hid, mxB, had]
    clear had hok
    go_wp2_with fail
    have hR7 := hR2.set (.int .i64 s) (.slice va vn vc)
    have b7 := (b2.setCell (p := ⟨w.heap.size + 1, 0, none⟩) (by simp) (.int .i64 s)).setCell (p := ⟨w.heap.size + 1, 1, none⟩) (by simp) (.slice va vn vc)
    refine bodyPost_ret (v := .tuple #[.agg #[.int .i64 s, .slice va vn vc], .bool false]) (by have ⟨⟨_, q1, q2⟩, _, _⟩ := hR7; simp [results, Try.results49, go_sem, q1, q2]) rfl ?_
    exact ⟨s, va, vn, vc, by rw [HM.out], (by intro h; rw [HM.out] at h; cases h), b7⟩
  · have HF := Lib.hid had
    have HOK := Lib.hid (hok had)
    have h12 := adB_small had
    clear had hok
    have HUC := Lib.hid (isUpper_any a xss cap _ (HX.out.below b2))
    cases hup : upB xss
    · have HU := Lib.hid hup
      have HM : Hid (mxB xss = false) := by simp [Hid, mxB, hup]
      clear hup
      go_wp2_with fail
      refine HUC.out.mono ?_
      rintro e w3 ⟨rfl, hb3⟩
      rw [HU.out]
      have hA3 := hA2.below hb3
      have hR3 := hR2.below hb3
      have b3 := b2.trans (hb3.mono b2.size)
      have ⟨zA3, cA3, dA3⟩ := hA3
      have ⟨⟨zR3, cR3, dR3⟩, fR3, gR3⟩ := hR3
      clear hb3
      go_wp2_with fail
      have hR7 := hR3.set (.int .i64 s) (.slice va vn vc)
      have b7 := (b3.setCell (p := ⟨w.heap.size + 1, 0, none⟩) (by simp) (.int .i64 s)).setCell (p := ⟨w.heap.size + 1, 1, none⟩) (by simp) (.slice va vn vc)
      refine bodyPost_ret (v := .tuple #[.agg #[.int .i64 s, .slice va vn vc], .bool false]) (by have ⟨⟨_, q1, q2⟩, _, _⟩ := hR7; simp [results, Try.results49, go_sem, q1, q2]) rfl ?_
      exact ⟨s, va, vn, vc, by rw [HM.out], (by intro h; rw [HM.out] at h; cases h), b7⟩
    · have HU := Lib.hid hup
      have HL : Hid (∀ k, k < xss.length → (rowL xss k).length = xss.length) := fun k hk => (upB_iff.1 hup k hk).1
      have HM : Hid (mxB xss = adB (colsL xss)) := by rw [Hid, mxB, HF.out, hup]; rfl
      clear hup
      go_wp2_with fail
      refine HUC.out.mono ?_
      rintro e w3 ⟨rfl, hb3⟩
      rw [HU.out]
      have hA3 := hA2.below hb3
      have hR3 := hR2.below hb3
      have b3 := b2.trans (hb3.mono b2.size)
      have hs3 : w1.heap.size ≤ w3.heap.size := by have := hb3.size; simp at this; omega
      have c3 := (hb3.cell (p := ⟨w.heap.size, 0, none⟩) (by simp; omega)).trans c2
      have ⟨zA3, cA3, dA3⟩ := hA3
      have ⟨⟨zR3, cR3, dR3⟩, fR3, gR3⟩ := hR3
      have bb3 : Below w1.heap.size w1 w3 := bb2.trans (hb3.mono (by simp))
      clear hb3
      go_wp2_with fail
      refine (columnsOf_any a xss cap _ (HX.out.below b3).rd h12 HL.out).mono ?_
      rintro e w4 ⟨g, vlc, rfl, hro, hb4⟩
      have hA4 := hA3.below hb4
      have hR4 := hR3.below hb4
      have b4 := b3.trans (hb4.mono b3.size)
      have hs4 : w3.heap.size ≤ w4.heap.size := hb4.size
      have ⟨zA4, cA4, dA4⟩ := hA4
      have ⟨⟨zR4, cR4, dR4⟩, fR4, gR4⟩ := hR4
      have hAU := iAddUp_any (some ⟨g, 0, none⟩) (colsL xss) xss.length w4 hro.o.rd (by rw [colsL_sq]; exact sq_small (by omega))
      rw [← HM.out, colsL_len] at hAU
      have HAU := Lib.hid hAU
      have bb4 : Below w1.heap.size w1 w4 := bb3.trans (hb4.mono hs3)
      clear hb4 hro hAU
      go_wp2_with fail
      refine HAU.out.mono ?_
      rintro e w5 ⟨s5, va5, vn5, vc5, rfl, _, hb5⟩
      have hA5 := hA4.below hb5
      have hR5 := hR4.below hb5
      have b5 := b4.trans (hb5.mono b4.size)
      have bb5 : Below w1.heap.size w1 w5 := bb4.trans (hb5.mono (by omega))
      have ⟨zA5, cA5, dA5⟩ := hA5
      have ⟨⟨zR5, cR5, dR5⟩, fR5, gR5⟩ := hR5
      have hs5 : w4.heap.size ≤ w5.heap.size := hb5.size
      clear hb5
      go_wp2_with fail
      have hR7 := hR5.set (.int .i64 s) (.slice va vn vc)
      have b7 := (b5.setCell (p := ⟨w.heap.size + 1, 0, none⟩) (by simp) (.int .i64 s)).setCell (p := ⟨w.heap.size + 1, 1, none⟩) (by simp) (.slice va vn vc)
      refine bodyPost_ret (v := .tuple #[.agg #[.int .i64 s, .slice va vn vc], .bool (mxB xss)]) (by have ⟨⟨_, q1, q2⟩, _, _⟩ := hR7; simp [results, Try.results49, go_sem, q1, q2]) rfl ?_
      refine ⟨s, va, vn, vc, rfl, fun _ => ⟨HOK.out.1, ?_⟩, b7⟩
      obtain ⟨vl, hp⟩ := HOK.out.2
      have hp5 := hp.below bb5 (Nat.le_refl _)
      have hset : ∀ (p : Addr) (u : Value) (w9 : World), p.block = w.heap.size + 1 → SumP w9 W0.heap.size (.slice va vn vc) vl xss → SumP (w9.setCell p u) W0.heap.size (.slice va vn vc) vl xss := fun p u w9 e h =>
        ⟨ownsRow_setCell_below h.own (by rw [e]; omega) u, h.vlen, fun k hk => (h.row k hk).setBelow (by rw [e]; omega) u, h.apart, h.pair⟩
      exact ⟨vl, (hset _ _ _ rfl (hset _ _ _ rfl hp5)).mono (by omega)⟩

def smV (xss : List (List Int)) : Int := if mxB xss then matS xss xss.length else 0

theorem iSumMx_any (a : Option Addr) (xss : List (List Int)) (cap : Nat) (w : World) (hx : RdC w a xss) (hs : xss.length + totS xss xss.length ≤ 1048576) :
    Calls Try.prog 34 #[.agg #[.slice a xss.length cap]] w fun e w' => e = .returned (.tuple #[.int .i64 (smV xss), .bool (mxB xss)]) ∧ Below w.heap.size w w' := by
  have hlen := hx.rd.len
  have HCL := Lib.hid (fun W (h : RdC W a xss) => rowsOf_any a xss cap W h hs)
  cases hm : mxB xss
  · have HM := Lib.hid hm
    have H1 : Hid (smV xss = 0) := by simp [Hid, smV, hm]
    clear hm
    go_enter Try.func34, Try.ntmps34
    go_wp2_with fail
    refine (HCL.out _ (hx.below (by repeat (first | exact Below.refl _ _ | assumption | refine Below.alloc ?_ (by first | exact Nat.le_refl _ | (simp only [World.size_alloc, World.size_setCell, World.size_drew]; omega) | omega) _ | refine Below.setCell ?_ (by first | exact Nat.le_refl _ | (simp only [World.size_alloc, World.size_setCell, World.size_drew]; omega) | omega) _ | refine Below.drew ?_)))).mono ?_
    rintro e w1 ⟨s, va, vn, vc, rfl, _, hb⟩
    rw [HM.out]
    have b1 : Below w.heap.size w w1 := Below.trans (by repeat (first | exact Below.refl _ _ | assumption | refine Below.alloc ?_ (by first | exact Nat.le_refl _ | (simp only [World.size_alloc, World.size_setCell, World.size_drew]; omega) | omega) _ | refine Below.setCell ?_ (by first | exact Nat.le_refl _ | (simp only [World.size_alloc, World.size_setCell, World.size_drew]; omega) | omega) _ | refine Below.drew ?_)) (hb.mono (by first | (simp only [World.size_alloc, World.size_setCell, World.size_drew]; omega) | omega))
    clear hb
    go_wp2_with fail
    go_ret2
    exact ⟨ret_ib' H1.out.symm rfl, b1.alloc b1.size _⟩
  · have HM := Lib.hid hm
    have H1 : Hid (smV xss = matS xss xss.length) := by simp [Hid, smV, hm]
    clear hm
    go_enter Try.func34, Try.ntmps34
    go_wp2_with fail
    refine (HCL.out _ (hx.below (by repeat (first | exact Below.refl _ _ | assumption | refine Below.alloc ?_ (by first | exact Nat.le_refl _ | (simp only [World.size_alloc, World.size_setCell, World.size_drew]; omega) | omega) _ | refine Below.setCell ?_ (by first | exact Nat.le_refl _ | (simp only [World.size_alloc, World.size_setCell, World.size_drew]; omega) | omega) _ | refine Below.drew ?_)))).mono ?_
    rintro e w1 ⟨s, va, vn, vc, rfl, hok, hb⟩
    have hok2 := Lib.hid (hok HM.out).1
    rw [HM.out]
    have b1 : Below w.heap.size w w1 := Below.trans (by repeat (first | exact Below.refl _ _ | assumption | refine Below.alloc ?_ (by first | exact Nat.le_refl _ | (simp only [World.size_alloc, World.size_setCell, World.size_drew]; omega) | omega) _ | refine Below.setCell ?_ (by first | exact Nat.le_refl _ | (simp only [World.size_alloc, World.size_setCell, World.size_drew]; omega) | omega) _ | refine Below.drew ?_)) (hb.mono (by first | (simp only [World.size_alloc, World.size_setCell, World.size_drew]; omega) | omega))
    clear hb hok
    go_wp2_with fail
    go_ret2
    exact ⟨ret_ib' (by rw [H1.out, hok2.out]) rfl, b1.alloc b1.size _⟩

set_option maxRecDepth 100000 in
theorem iNamed_any (a : Option Addr) (xss : List (List Int)) (cap : Nat) (w : World) (hx : RdC w a xss) (hs : xss.length + totS xss xss.length ≤ 1048576) :
    Calls Try.prog 25 #[.agg #[.slice a xss.length cap]] w fun e w' => e = .returned (.tuple #[.int .i64 (nmV xss), .bool (mxB xss)]) ∧ Below w.heap.size w w' := by
  have HSM := Lib.hid (fun W (h : RdC W a xss) => iSumMx_any a xss cap W h hs)
  obtain ⟨W0, hW0⟩ : ∃ x : World, x = w.alloc (.cells #[.slice a xss.length cap] 29) := ⟨_, rfl⟩
  have bw0 : Below w.heap.size w W0 := by rw [hW0]; exact (Below.refl _ _).alloc (Nat.le_refl _) _
  have B0 : Box1 W0 w.heap.size (.slice a xss.length cap) := by rw [hW0]; exact Box1.new w _ _
  have hx0 := hx.below bw0
  obtain ⟨g0, hg0⟩ : ∃ g, g = w.heap.size := ⟨_, rfl⟩
  clear hx
  cases hm : mxB xss
  · have H1 : Hid (nmV xss = 0) := by simp [Hid, nmV, hm]
    rw [hm] at HSM
    clear hm
    go_enter Try.func25, Try.ntmps25
    go_wp2_with fail
    rw [← hW0]
    rw [← hg0] at B0 ⊢
    have ⟨zB0, cB0⟩ := B0
    clear hg0 hW0
    go_wp2_with fail
    refine (HSM.out _ hx0).mono ?_
    rintro e w1 ⟨rfl, hb⟩
    clear cB0
    go_wp2_with fail
    go_ret2
    exact ⟨ret_ib' H1.out.symm rfl, bw0.trans (hb.mono bw0.size)⟩
  · have h12 := mxB_small hm
    have g1 := (adB_iff.1 (mxB_iff.1 hm).1).2
    have g2 := matS_nn (xss := xss) (k := xss.length) (fun j hj => by have := (adB_row (mxB_iff.1 hm).1 hj).1; omega)
    have HNX : Hid (∀ i, i < xss.length → ∀ j, j < xss.length → _) := fun i hi j hj => nm_next hm hi hj
    have HM := Lib.hid hm
    have H1 : Hid (nmV xss = ((nmM xss (matS xss xss.length).toNat xss.length).1 : Int)) := by simp [Hid, nmV, hm]
    have HSV : Hid (smV xss = matS xss xss.length) := by simp [Hid, smV, hm]
    have HLF := nm_at hm xss.length (Nat.le_refl _)
    rw [hm, HSV.out] at HSM
    obtain ⟨S, hS⟩ : ∃ S : Nat, matS xss xss.length = (S : Int) := ⟨(matS xss xss.length).toNat, by omega⟩
    have e1 : (matS xss xss.length).toNat = S := by omega
    rw [hS] at HSM
    simp only [e1] at HNX H1 HLF
    have hl0 := HLF.left
    have HL0 : Hid ((nmM xss S xss.length).2 = 0) := by rw [Hid]; omega
    have hS12 : S ≤ 12 := by omega
    have HFC := Lib.hid (fun W => factorial_any S W hS12)
    have hf12 := (fac_small hS12).1
    clear hm e1 hS g1 g2 hl0 HLF
    go_enter Try.func25, Try.ntmps25
    go_wp2_with fail
    rw [← hW0]
    rw [← hg0] at B0 ⊢
    have ⟨zB0, cB0⟩ := B0
    clear hg0 hW0
    go_wp2_with fail
    refine (HSM.out _ hx0).mono ?_
    rintro e w1 ⟨rfl, hb1⟩
    have hx1 := hx0.below hb1
    have ⟨zB1, cB1⟩ := B0.below hb1
    have b1 := bw0.trans (hb1.mono bw0.size)
    clear cB0
    go_wp2_with fail
    refine (HFC.out _).mono ?_
    rintro e w2 ⟨rfl, rfl⟩
    go_wp2_with fail
    go_loop [6, 23] (fun v6 i => ∃ k : Nat, k ≤ xss.length ∧ i = .int .i64 k ∧ v6 = .int .i64 (((nmM xss S k).1 * facN (nmM xss S k).2 : Nat) : Int)) (fun _ i => xss.length - (intOf i).toNat)
    case atStart => exact ⟨0, Nat.zero_le _, rfl, by simp [nmM]⟩
    case round =>
      obtain ⟨k, hk, rfl, rfl⟩ := hrel
      by_cases hlt : k < xss.length
      · have hx2 := hx1
        obtain ⟨b, off, a', cap', rfl, hbl, hc, hr, hcp⟩ := hx2.row hlt
        have hrow := mxB_len HM.out hlt
        have HK : Hid (nmM xss S (k+1) = nmR (rowL xss k) (nmM xss S k).1 (nmM xss S k).2 xss.length) := rfl
        have HNK : Hid (∀ j, j < xss.length → _) := fun j hj => HNX.out k hlt j hj
        rw [hrow] at hc
        go_wp2_with fail
        go_loop [6, 29] (fun v6 i => ∃ j : Nat, j ≤ xss.length ∧ i = .int .i64 j ∧ v6 = .int .i64 (((nmR (rowL xss k) (nmM xss S k).1 (nmM xss S k).2 j).1 * facN (nmR (rowL xss k) (nmM xss S k).1 (nmM xss S k).2 j).2 : Nat) : Int)) (fun _ i => xss.length - (intOf i).toNat)
        case atStart => exact ⟨0, Nat.zero_le _, rfl, rfl⟩
        case round =>
          obtain ⟨j, hj, rfl, rfl⟩ := hrel
          by_cases hjl : j < xss.length
          · obtain ⟨b', off', rfl, hbl', hc'⟩ := hr.cell j (by rw [hrow]; exact hjl)
            obtain ⟨n, en, Q⟩ := HNK.out j hjl
            rw [en] at hc'
            obtain ⟨p, hp⟩ : ∃ p, p = nmR (rowL xss k) (nmM xss S k).1 (nmM xss S k).2 j := ⟨_, rfl⟩
            obtain ⟨p', hp'⟩ : ∃ p, p = nmR (rowL xss k) (nmM xss S k).1 (nmM xss S k).2 (j+1) := ⟨_, rfl⟩
            have HP' := Lib.hid hp'
            rw [← hp, ← hp'] at Q
            rw [← hp]
            obtain ⟨c, l⟩ := p
            obtain ⟨c', l'⟩ := p'
            obtain ⟨q1, q2, q3, q4, q5, q6, q7, q8⟩ := Q
            simp only at q1 q2 q3 q4 q5 q6 q7 q8 ⊢
            have HC := Lib.hid (fun W => factorial_any n W (by omega))
            have hfn := fac_small (n := n) (by omega)
            obtain ⟨C, hC⟩ : ∃ C, C = facN n := ⟨_, rfl⟩
            rw [← hC] at HC q8 hfn
            obtain ⟨V, hV⟩ : ∃ V, V = c * facN l := ⟨_, rfl⟩
            rw [← hV] at q7 q8 ⊢
            obtain ⟨V', hV'⟩ : ∃ V, V = c' * facN l' := ⟨_, rfl⟩
            have HV' := Lib.hid hV'
            rw [← hV'] at q8
            have e3 : Int.tdiv (V : Int) (C : Int) = (V' : Int) := by rw [← q8]; rfl
            have hV'' : V' ≤ 479001600 := by rw [← q8]; exact Nat.le_trans (Nat.div_le_self _ _) q7
            have kj : (j : Int) < (xss.length : Int) := by omega
            have ⟨f1, f2⟩ := hfn
            have tz : ((C : Int) == 0) = false := by simp; omega
            have tz2 : ¬ ((C : Int) = 0) := by omega
            clear hp hp' en q1 q2 q3 q4 q5 q6 q8 hC hV hV' hfn
            go_wp2_with fail
            refine (HC.out _).mono ?_
            rintro e w2 ⟨rfl, rfl⟩
            go_wp2_with fail
            go_round
            case rel => exact ⟨j + 1, by omega, by go_num, by rw [← HP'.out, HV'.out]⟩
            case measure => simp [intOf]; omega
          · obtain rfl : j = xss.length := by omega
            go_wp2_with fail
            go_round
            case rel => exact ⟨k + 1, by omega, by go_num, by rw [HK.out]⟩
            case measure => simp [intOf]; omega
      · obtain rfl : k = xss.length := by omega
        rw [HL0.out, show facN 0 = 1 from rfl, Nat.mul_one]
        go_wp2_with fail
        go_ret2
        exact ⟨ret_ib' H1.out.symm rfl, b1⟩

theorem walk (a0 : Option Addr) (xss0 : List (List Int)) (cap0 : Nat) (w : World) (hx0 : RdS w a0 xss0) :
    Calls Try.prog 6 #[.agg #[.slice a0 xss0.length cap0]] w fun e w' => e = .returned (.bool true) ∧ Below w.heap.size w w' := by
  by_cases hs0 : 1048576 < ((xss0.length + totS xss0 xss0.length : Nat) : Int)
  · go_enter Try.func6, Try.ntmps6
    go_wp2_with fail
    refine (szMx_no (by omega) (hx0.below ((Below.refl _ _).alloc (by first | exact Nat.le_refl _ | simp) _))).mono ?_
    rintro e w1 ⟨rfl, hb1⟩
    have bw1 : Below w.heap.size w w1 := Below.trans (by repeat (first | exact Below.refl _ _ | assumption | refine Below.alloc ?_ (by first | exact Nat.le_refl _ | (simp only [World.size_alloc, World.size_setCell, World.size_drew]; omega) | omega) _ | refine Below.setCell ?_ (by first | exact Nat.le_refl _ | (simp only [World.size_alloc, World.size_setCell, World.size_drew]; omega) | omega) _ | refine Below.drew ?_)) (hb1.mono (by first | (simp only [World.size_alloc, World.size_setCell, World.size_drew]; omega) | omega))
    have A0_1 : Box1 w1 w.heap.size (.slice a0 xss0.length cap0) := ⟨by have := hb1.size; simp at this; omega, (hb1.cell (p := ⟨w.heap.size, 0, none⟩) (by simp <;> omega)).trans (by simp)⟩
    have ⟨zA0_1, cA0_1⟩ := A0_1
    go_wp2_with fail
    go_ret
    exact ⟨rfl, bw1⟩
  go_enter Try.func6, Try.ntmps6
  go_wp2_with fail
  refine (szMx_ok (by omega) (hx0.below ((Below.refl _ _).alloc (by first | exact Nat.le_refl _ | simp) _))).mono ?_
  rintro e w1 ⟨rfl, hb⟩
  have bw1 : Below w.heap.size w w1 := Below.trans (by repeat (first | exact Below.refl _ _ | assumption | refine Below.alloc ?_ (by first | exact Nat.le_refl _ | (simp only [World.size_alloc, World.size_setCell, World.size_drew]; omega) | omega) _ | refine Below.setCell ?_ (by first | exact Nat.le_refl _ | (simp only [World.size_alloc, World.size_setCell, World.size_drew]; omega) | omega) _ | refine Below.drew ?_)) (hb.mono (by first | (simp only [World.size_alloc, World.size_setCell, World.size_drew]; omega) | omega))
  have z1 : w.heap.size ≤ w1.heap.size := bw1.size
  have A0_1 : Box1 w1 w.heap.size (.slice a0 xss0.length cap0) := ⟨by have := hb.size; simp at this; omega, (hb.cell (p := ⟨w.heap.size, 0, none⟩) (by simp <;> omega)).trans (by simp)⟩
  have ⟨zA0_1, cA0_1⟩ := A0_1
  clear hb
  go_wp2_with fail
  refine (toMx_any _ _ _ _ (hx0.below bw1) (by omega)).mono ?_
  rintro e w2 ⟨pT0, qT0, lT0, rfl, ho, hb⟩
  have ht : Below w1.heap.size w1 w2 := hb
  have z2 : w1.heap.size ≤ w2.heap.size := ht.size
  have bw2 : Below w.heap.size w w2 := bw1.trans (ht.mono bw1.size)
  have A0_2 := A0_1.below ht
  have ⟨zA0_2, cA0_2⟩ := A0_2
  clear A0_1 cA0_1
  have T0_2 := ho
  have UT0 := T0_2.cut (Nat.le_refl _)
  clear ho
  clear ht hb
  go_wp2_with fail
  refine (sNamed_any _ _ _ _ (T0_2.rdC) (by omega)).mono ?_
  rintro e w3 ⟨rfl, hb⟩
  have ht : Below w2.heap.size w2 w3 := hb
  have z3 : w2.heap.size ≤ w3.heap.size := ht.size
  have bw3 : Below w.heap.size w w3 := bw2.trans (ht.mono bw2.size)
  have A0_3 := A0_2.below ht
  have ⟨zA0_3, cA0_3⟩ := A0_3
  have T0_3 := T0_2.below ht (Nat.le_refl _)
  clear A0_2 cA0_2 T0_2
  clear ht hb
  go_wp2_with fail
  clear T0_3 UT0
  refine (toMx_any _ _ _ _ (hx0.below bw3) (by omega)).mono ?_
  rintro e w4 ⟨pX0, qX0, lX0, rfl, ho, hb⟩
  have ht : Below w3.heap.size w3 w4 := hb
  have z4 : w3.heap.size ≤ w4.heap.size := ht.size
  have bw4 : Below w.heap.size w w4 := bw3.trans (ht.mono bw3.size)
  have A0_4 := A0_3.below ht
  have ⟨zA0_4, cA0_4⟩ := A0_4
  clear A0_3 cA0_3
  have X0_4 := ho
  have UX0 := X0_4.cut (Nat.le_refl _)
  clear ho
  clear ht hb
  go_wp2_with fail
  refine (iNamed_any _ _ _ _ (X0_4.rdC.below (by repeat (first | exact Below.refl _ _ | assumption | refine Below.alloc ?_ (by first | exact Nat.le_refl _ | (simp only [World.size_alloc, World.size_setCell, World.size_drew]; omega) | omega) _ | refine Below.setCell ?_ (by first | exact Nat.le_refl _ | (simp only [World.size_alloc, World.size_setCell, World.size_drew]; omega) | omega) _ | refine Below.drew ?_))) (by omega)).mono ?_
  rintro e w5 ⟨rfl, hb⟩
  have ht : Below w4.heap.size w4 w5 := Below.trans (by repeat (first | exact Below.refl _ _ | assumption | refine Below.alloc ?_ (by first | exact Nat.le_refl _ | (simp only [World.size_alloc, World.size_setCell, World.size_drew]; omega) | omega) _ | refine Below.setCell ?_ (by first | exact Nat.le_refl _ | (simp only [World.size_alloc, World.size_setCell, World.size_drew]; omega) | omega) _ | refine Below.drew ?_)) (hb.mono (by first | (simp only [World.size_alloc, World.size_setCell, World.size_drew]; omega) | omega))
  have z5 : w4.heap.size ≤ w5.heap.size := ht.size
  have bw5 : Below w.heap.size w w5 := bw4.trans (ht.mono bw4.size)
  have A0_5 := A0_4.below ht
  have BX0_5 : Box1 w5 w4.heap.size (.slice (some ⟨pX0, 0, none⟩) xss0.length qX0) := (Box1.new w4 _ 29).below hb
  have ⟨zA0_5, cA0_5⟩ := A0_5
  have ⟨zBX0_5, cBX0_5⟩ := BX0_5
  have X0_5 := X0_4.below ht (Nat.le_refl _)
  clear A0_4 cA0_4 X0_4
  clear ht hb
  go_wp2_with fail
  go_region_held3 (fun w' => w'.cell? ⟨w.heap.size, 0, none⟩ = some (.slice a0 xss0.length cap0) ∧ w'.cell? ⟨w4.heap.size, 0, none⟩ = some (.slice (some ⟨pX0, 0, none⟩) xss0.length qX0))
    (first | exact ⟨P7.2, Q7.2⟩ | exact ⟨P6.2, Q6.2⟩ | go_keep)
    (first | (go_at_call 11; refine (toMx_any _ _ _ _ (hx0.below (bw5.trans (Joins.below_draws _ _ _))) (by omega)).mono ?_; rintro e w6 ⟨a6', cap6', l6', rfl, ho6, hb6⟩; have ht6 : Below w5.heap.size w5 w6 := (Joins.below_draws _ _ _).trans hb6; have P6 := A0_5.below ht6; have Q6 := BX0_5.below ht6) | (go_at_call 14; refine (eqMx_any _ _ xss0 _ _ _ (X0_5.rd.below ht6) ho6.rd).mono ?_; rintro e w7 ⟨rfl, hb7⟩; have P7 := P6.below hb7; have Q7 := Q6.below hb7))
  have ht : Below w5.heap.size w5 w7 := ht6.trans (hb7.mono ht6.size)
  have z7 : w5.heap.size ≤ w7.heap.size := ht.size
  have bw7 : Below w.heap.size w w7 := bw5.trans (ht.mono bw5.size)
  clear P6 Q6 P7 Q7 ho6
  have A0_7 := A0_5.below ht
  have BX0_7 := BX0_5.below ht
  have ⟨zA0_7, cA0_7⟩ := A0_7
  have ⟨zBX0_7, cBX0_7⟩ := BX0_7
  have X0_7 := X0_5.below ht (Nat.le_refl _)
  clear A0_5 cA0_5 BX0_5 cBX0_5 X0_5
  clear ht hb7 ht6 hb6
  go_wp2_with fail
  go_ret
  exact ⟨rfl, bw7⟩

theorem rd_of_trod {H : Type} {enc : TypeId × Value → H} {W : World} {fuel : Nat} {c : Value} {y : DataW H × List MemPlace}
    (h : DataW.trod enc Try.prog W 0 (fun _ => true) true fuel 26 [c] = some y) : ∃ (a : Option Addr) (xs : List Int) (cap : Nat), c = .slice a xs.length cap ∧ Rd W a xs ∧ ∀ k, k < xs.length → (Lit.int .i64 (nth xs k)).wf = true := by
  rcases Go.ChangeShapes.open_ints Try.underlying26 Try.underlying3 (by kernel_rfl) h with ⟨hcs, _⟩ | ⟨x, len, cap, zs, hcs, _, hl, hm, hz, _, hcell, hwf⟩
  · simp only [List.cons.injEq, and_true] at hcs
    exact ⟨none, [], 0, hcs, ⟨by simp, fun k hk => by simp at hk⟩, fun k hk => by simp at hk⟩
  · simp only [List.cons.injEq, and_true] at hcs
    simp only [if_true] at hz
    have hlen : (zs.take len).length = len := by rw [List.length_take]; omega
    have hn : ∀ k, k < len → nth (zs.take len) k = zs.getD k 0 := by
      intro k hk
      simp only [nth, List.getD_eq_getElem?_getD, List.getElem?_take, hk, if_true]
    refine ⟨some x, zs.take len, cap, by rw [hlen]; exact hcs, ⟨by rw [hlen]; unfold maxLen at hm; omega, fun k hk => ?_⟩, fun k hk => ?_⟩
    · rw [hlen] at hk
      obtain ⟨b, off, sp⟩ := x
      have h0 := hcell 0 (by omega)
      have hsp : sp = none := by simpa [Addr.add] using World.cell?_spot h0
      subst hsp
      have hk' := hcell k (by omega)
      rw [Addr.add_lit] at hk'
      exact ⟨b, off, rfl, World.block_lt_of_cell? _ _ h0, by rw [hk', hn k hk]⟩
    · rw [hlen] at hk
      rw [hn k hk]
      have hk2 : k < zs.length := by omega
      exact hwf _ (by rw [List.getD_eq_getElem?_getD, List.getElem?_eq_getElem hk2]; exact List.getElem_mem hk2)

theorem own : ownKnob Try.prog.godebug = none := by kernel_rfl
theorem laidOut : laidOutB Try.prog = true := by kernel_rfl
theorem wf_bd {n : Int} (h : (Lit.int .i64 n).wf = true) : -9223372036854775808 ≤ n ∧ n ≤ 9223372036854775807 := by
  simp [Lit.wf, IntKind.min, IntKind.max, IntKind.bits, IntKind.signed] at h
  omega

end Go.Proofs.Ytjolgaaggpnkhaa.namedCount
