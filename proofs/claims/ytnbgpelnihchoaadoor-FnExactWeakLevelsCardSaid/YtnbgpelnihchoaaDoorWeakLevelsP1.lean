/- A part of the proof of YtnbgpelnihchoaaDoorWeakLevels: contracts of functions. -/
import Derived.Test.YtnbgpelnihchoaaDoorRows
import Derived.WalkKit
import Derived.WalkSpells
import Derived.WalkLawsBesides
import Derived.Deep.QuietTactic
import Derived.BigQuiet
import Derived.ProofKit
import Derived.OpenShut
import Derived.ShutString
import Derived.ChangeOld
import Derived.Below
import Derived.Lib.SmallJoins
import Derived.Lib.Hide
import Derived.Lib.SlicesCompact
import Derived.Deep.RegionHeld3
import Derived.LaidMore
import Derived.Stop.Joined
import Derived.WalkMore
import Derived.Shelf.Small.Bits
import Derived.Shelf.Small.Wraps
import Derived.Shelf.Strconv.Itoa0
import Derived.Shelf.Sort.Plain
import Derived.Shelf.Slices.Clone
import Derived.Shelf.Slices.SearchI
import Derived.Shelf.Slices.In.SortNone
import Derived.Shelf.SlicesE.Clone
import Derived.Shelf.SlSortCmp.Insertion
import Derived.Shelf.SlSortCmp.SiftDown1
import Derived.Shelf.SlSortCmp.HeapSort1
import Derived.Shelf.SlSortCmp.Insertion1
import Derived.Shelf.SlSortCmp.Median1
import Derived.Shelf.SlSortCmp.Pivot1
import Derived.Shelf.SlSortCmp.ReverseRange1
import Derived.Shelf.SlSortCmp.PartialInsertion1
import Derived.Shelf.SlSortCmp.PartitionEqual1
import Derived.Shelf.SlSortCmp.Partition1
import Derived.Shelf.SlSortCmp.Pdq1
import Derived.Shelf.SlSortCmp.Whole1
import Derived.Shelf.SlSortCmp.NoneTotal
import Derived.Sort.OwnSortedInts
import Derived.Lib.RowBridge
import Derived.Lib.SliceRun
import Derived.Test.YtnbgpelnihchoaaDoorTie
import Derived.Test.YtnbgpelnihchoaaDoorCards
import Derived.SevenTiedAt
namespace Go.Proofs.YtnbgpelnihchoaaDoor.weakLevels
open Go Go.RowKit
set_option linter.unusedVariables false
set_option linter.unusedSimpArgs false
set_option maxHeartbeats 400000
open Go.Shelf


/-- a number of a list; a plain function, which the walk leaves alone -/
def nth (xs : List Int) (k : Nat) : Int := xs.getD k 0
theorem nth_get (xs : List Int) (k : Nat) (h : k < xs.length) : nth xs k = xs[k] := by simp [nth, h]
/-- the slice at an address reads as a list -/
structure Rd (w : World) (a : Option Addr) (xs : List Int) : Prop where
  len : xs.length ≤ 9223372036854775807
  cell : ∀ k, k < xs.length → ∃ b off, a = some ⟨b, off, none⟩ ∧ b < w.heap.size ∧ w.cell? ⟨b, off + k, none⟩ = some (.int .i64 (nth xs k))
theorem Rd.below {w w' : World} {a : Option Addr} {xs : List Int} (h : Rd w a xs) (hb : Below w.heap.size w w') : Rd w' a xs :=
  ⟨h.len, fun k hk => by
    obtain ⟨b, off, e, hl, hc⟩ := h.cell k hk
    exact ⟨b, off, e, Nat.lt_of_lt_of_le hl hb.size, (hb.cell (World.block_lt_of_cell? _ _ hc)).trans hc⟩⟩
theorem Rd.mid {w w1 w2 : World} {a : Option Addr} {xs : List Int} {B : Nat} (h : Rd w a xs) (hb : Below B w1 w2) (hB : w.heap.size ≤ B) (h1 : Rd w1 a xs) : Rd w2 a xs :=
  ⟨h.len, fun k hk => by
    obtain ⟨b, off, e, hl, hc⟩ := h.cell k hk
    obtain ⟨b', off', e', hl', hc'⟩ := h1.cell k hk
    rw [e] at e'
    simp only [Option.some.injEq, Addr.mk.injEq, and_true] at e'
    obtain ⟨rfl, rfl⟩ := e'
    exact ⟨b, off, e, Nat.lt_of_lt_of_le hl' hb.size, (hb.cell (by show b < B; omega)).trans hc'⟩⟩
theorem Rd.alloc {w : World} {a : Option Addr} {xs : List Int} (h : Rd w a xs) (o : Obj) : Rd (w.alloc o) a xs :=
  h.below ((Below.refl _ _).alloc (Nat.le_refl _) o)
theorem Rd.same {w w' : World} {a : Option Addr} {xs : List Int} (h : Rd w a xs) (hs : w.heap.size ≤ w'.heap.size)
    (hb : ∀ b off, a = some ⟨b, off, none⟩ → w'.heap[b]? = w.heap[b]?) : Rd w' a xs :=
  ⟨h.len, fun k hk => by
    obtain ⟨b, off, e, hl, hc⟩ := h.cell k hk
    exact ⟨b, off, e, Nat.lt_of_lt_of_le hl hs, (World.cell?_of_block (w := w) (a := ⟨b, off + k, none⟩) (hb b off e)).trans hc⟩⟩
/-- a slice value that owns the row of these integers, in a block from B on -/
def OwnI (w : World) (B : Nat) (v : Value) (xs : List Int) : Prop := w.ownsRow B 3 1 v xs.length (xs.map (Value.int .i64))
theorem OwnI.form {w : World} {B : Nat} {v : Value} {xs : List Int} (h : OwnI w B v xs) : ∃ a cap, v = .slice a xs.length cap := by
  rcases h.2 with ⟨rfl, h0⟩ | ⟨g, cap, cur, rfl, _⟩
  · exact ⟨none, 0, by rw [h0]⟩
  · exact ⟨_, _, rfl⟩
theorem OwnI.rd {w : World} {B n cap : Nat} {a : Option Addr} {xs : List Int} (h : OwnI w B (.slice a n cap) xs) : Rd w a xs := by
  rcases h.2 with ⟨e, h0⟩ | ⟨g, cap', cur, e, hb, hg, hn, hm, hs, ht⟩
  · exact ⟨by omega, fun k hk => by omega⟩
  · simp only [Value.slice.injEq] at e
    obtain ⟨rfl, rfl, rfl⟩ := e
    refine ⟨by unfold maxLen at hm; omega, fun k hk => ⟨g, 0, rfl, (Array.getElem?_eq_some_iff.1 hg).1, ?_⟩⟩
    have := World.ownsRow.cellAt h k (by omega)
    rw [Nat.zero_add, this]
    simp [nth, hk]
theorem OwnI.blk {w : World} {B n cap : Nat} {a : Option Addr} {xs : List Int} (h : OwnI w B (.slice a n cap) xs) : ∀ b off s, a = some ⟨b, off, s⟩ → B ≤ b ∧ b < w.heap.size := by
  intro b off s e
  subst e
  exact World.ownsRow.lt h b rfl
theorem OwnI.kept {w w' : World} {B : Nat} {v : Value} {xs : List Int} {row : Option Nat} (h : OwnI w B v xs) (hg : w.grownBy w' row) (hne : v.ownBlock = none ∨ v.ownBlock ≠ row) : OwnI w' B v xs := World.ownsRow.kept h hg hne
theorem OwnI.mono {w : World} {B B' : Nat} {v : Value} {xs : List Int} (h : OwnI w B v xs) (hB : B' ≤ B) : OwnI w B' v xs := by
  refine ⟨h.1, ?_⟩
  rcases h.2 with hn | ⟨g, cap, cur, e, hb, rest⟩
  · exact .inl hn
  · exact .inr ⟨g, cap, cur, e, by omega, rest⟩
theorem OwnI.below {w w' : World} {B B' : Nat} {v : Value} {xs : List Int} (h : OwnI w B v xs) (hb : Below B' w w') (hB : w.heap.size ≤ B') : OwnI w' B v xs := by
  refine ⟨h.1, ?_⟩
  rcases h.2 with hn | ⟨g, cap, cur, e, hb', hg, rest⟩
  · exact .inl hn
  · refine .inr ⟨g, cap, cur, e, hb', ?_, rest⟩
    rw [hb.block g (by have := (Array.getElem?_eq_some_iff.1 hg).1; omega)]
    exact hg
theorem ret_bool {a b : Bool} (h : a = b) : Ending.returned (.bool a) = .returned (.bool b) := by rw [h]
theorem ret_int {a b : Int} (h : a = b) : Ending.returned (.int .i64 a) = .returned (.int .i64 b) := by rw [h]
theorem val_int {a b : Int} (h : a = b) : Value.int .i64 a = .int .i64 b := by rw [h]
theorem grown_below {w w' : World} {g : Nat} (h : w.grownBy w' (some g)) (B : Nat) (hB : B ≤ g) (hs : B ≤ w.heap.size) : Below B w w' :=
  ⟨h.os, h.tape, h.output, h.size, fun k hk => h.block k (by omega) (by intro e; simp only [Option.some.injEq] at e; omega)⟩
theorem below_grown {w w' : World} {B : Nat} (h : Below B w w') (hB : w.heap.size ≤ B) (row : Option Nat) : w.grownBy w' row :=
  ⟨h.os, h.tape, h.output, h.size, fun k hk _ => h.block k (by omega)⟩
theorem bcell {W w1 : World} (hb : Below W.heap.size W w1) : (∀ b o, b < W.heap.size → w1.cell? ⟨b, o, none⟩ = W.cell? ⟨b, o, none⟩) ∧ (∀ b o, b < W.heap.size → w1.frozen? ⟨b, o, none⟩ = W.frozen? ⟨b, o, none⟩) :=
  ⟨fun b o h => hb.cell (p := ⟨b, o, none⟩) h, fun b o h => hb.frozen (p := ⟨b, o, none⟩) h⟩
theorem infoInt : (Tryd.prog.info? 3).map (fun i => (i.zero, i.size, i.bytes)) = some (some (.int .i64 0), 1, 8) := by kernel_rfl
theorem OwnI.setBelow {w : World} {B : Nat} {v : Value} {xs : List Int} (h : OwnI w B v xs) {p : Addr} (hp : p.block < B) (u : Value) : OwnI (w.setCell p u) B v xs := ownsRow_setCell_below h hp u
theorem OwnI.alloc {w : World} {B : Nat} {v : Value} {xs : List Int} (h : OwnI w B v xs) (o : Obj) : OwnI (w.alloc o) B v xs := h.below ((Below.refl _ _).alloc (Nat.le_refl _) o) (Nat.le_refl _)
theorem Below.mono' {B B' : Nat} {w w' : World} (h : Below B w w') (hB : B' ≤ B) : Below B' w w' := h.mono hB
/-- a block that holds two cells -/
def Box2 (w : World) (b : Nat) (u v : Value) : Prop := b < w.heap.size ∧ w.cell? ⟨b, 0, none⟩ = some u ∧ w.cell? ⟨b, 1, none⟩ = some v
theorem Box2.below {w w' : World} {b : Nat} {u v : Value} (h : Box2 w b u v) (hb : Below w.heap.size w w') : Box2 w' b u v :=
  ⟨Nat.lt_of_lt_of_le h.1 hb.size, (hb.cell (p := ⟨b, 0, none⟩) h.1).trans h.2.1, (hb.cell (p := ⟨b, 1, none⟩) h.1).trans h.2.2⟩
theorem Box2.new (w : World) (u v : Value) (t : TypeId) : Box2 (w.alloc (.cells #[u, v] t)) w.heap.size u v :=
  ⟨by simp, by simp, by simp⟩
theorem Box2.kept {w w' : World} {b : Nat} {u v : Value} {row : Option Nat} (h : Box2 w b u v) (hg : w.grownBy w' row) (hne : some b ≠ row) : Box2 w' b u v :=
  ⟨Nat.lt_of_lt_of_le h.1 hg.size, hg.cell h.2.1 hne, hg.cell h.2.2 hne⟩
theorem OwnI.lt {w : World} {B : Nat} {v : Value} {xs : List Int} (h : OwnI w B v xs) : ∀ b, v.ownBlock = some b → B ≤ b ∧ b < w.heap.size := World.ownsRow.lt h
theorem OwnI.cut {w : World} {B : Nat} {v : Value} {xs : List Int} (h : OwnI w B v xs) {U : Nat} (hU : w.heap.size ≤ U) : ∀ b, v.ownBlock = some b → B ≤ b ∧ b < U := fun b e => ⟨(h.lt b e).1, Nat.lt_of_lt_of_le (h.lt b e).2 hU⟩
/-- a block of two cells that may be written -/
def Var2 (w : World) (b : Nat) (u v : Value) : Prop := Box2 w b u v ∧ w.frozen? ⟨b, 0, none⟩ = false ∧ w.frozen? ⟨b, 1, none⟩ = false
theorem Var2.below {w w' : World} {b : Nat} {u v : Value} (h : Var2 w b u v) (hb : Below w.heap.size w w') : Var2 w' b u v :=
  ⟨h.1.below hb, (hb.frozen (p := ⟨b, 0, none⟩) h.1.1).trans h.2.1, (hb.frozen (p := ⟨b, 1, none⟩) h.1.1).trans h.2.2⟩
theorem Var2.new (w : World) (u v : Value) (t : TypeId) : Var2 (w.alloc (.cells #[u, v] t)) w.heap.size u v :=
  ⟨Box2.new w u v t, by simp, by simp⟩
theorem Var2.alloc {w : World} {b : Nat} {u v : Value} (h : Var2 w b u v) (o : Obj) : Var2 (w.alloc o) b u v := h.below ((Below.refl _ _).alloc (Nat.le_refl _) o)
theorem Var2.kept {w w' : World} {b : Nat} {u v : Value} {row : Option Nat} (h : Var2 w b u v) (hg : w.grownBy w' row) (hne : some b ≠ row) : Var2 w' b u v :=
  ⟨h.1.kept hg hne, (World.frozen?_of_block (w := w) (a := ⟨b, 0, none⟩) (hg.block b h.1.1 hne)).trans h.2.1, (World.frozen?_of_block (w := w) (a := ⟨b, 1, none⟩) (hg.block b h.1.1 hne)).trans h.2.2⟩
theorem Var2.set {w : World} {b : Nat} {u v : Value} (h : Var2 w b u v) (u' v' : Value) : Var2 ((w.setCell ⟨b, 0, none⟩ u').setCell ⟨b, 1, none⟩ v') b u' v' := by
  refine ⟨⟨by simpa using h.1.1, ?_, ?_⟩, by simpa using h.2.1, by simpa using h.2.2⟩
  · rw [World.cell?_setCell_other _ _ _ _ (by simp), World.cell?_setCell_same _ _ _ h.1.2.1]
  · rw [World.cell?_setCell_same _ _ _ (u := v) (by rw [World.cell?_setCell_other _ _ _ _ (by simp)]; exact h.1.2.2)]
theorem grown_set (w : World) (p : Addr) (u : Value) : w.grownBy (w.setCell p u) (some p.block) :=
  ⟨rfl, rfl, rfl, by simp, fun k hk hn => Below.heap_setCell w p u k (fun e => hn (by rw [e]))⟩
theorem Var2.set1 {w : World} {b : Nat} {u v : Value} (h : Var2 w b u v) (v' : Value) : Var2 (w.setCell ⟨b, 1, none⟩ v') b u v' := by
  refine ⟨⟨by simpa using h.1.1, ?_, ?_⟩, by simpa using h.2.1, by simpa using h.2.2⟩
  · rw [World.cell?_setCell_other _ _ _ _ (by simp)]; exact h.1.2.1
  · rw [World.cell?_setCell_same _ _ _ h.1.2.2]
theorem Box2.set {w : World} {b : Nat} {u v : Value} (h : Box2 w b u v) {p : Addr} (x : Value) (hne : b ≠ p.block) : Box2 (w.setCell p x) b u v :=
  h.kept (grown_set w p x) (by simpa using hne)
theorem Var2.other {w : World} {b : Nat} {u v : Value} (h : Var2 w b u v) {p : Addr} (x : Value) (hne : b ≠ p.block) : Var2 (w.setCell p x) b u v :=
  h.kept (grown_set w p x) (by simpa using hne)
theorem ne_own {v : Value} {b : Nat} (h : ∀ c, v.ownBlock = some c → c ≠ b) : some b ≠ v.ownBlock := fun e => h b e.symm rfl
theorem grown_alloc_set {w w1 : World} {r : Option Nat} {o : Obj} (h : (w.alloc o).grownBy w1 r) : w.grownBy w1 r :=
  ⟨h.os, h.tape, h.output, by have := h.size; simp at this; omega, fun k hk hn => (h.block k (by simp; omega) hn).trans (Below.heap_alloc w o k hk)⟩
theorem grown_trans {w w1 w2 : World} {r : Option Nat} (h1 : w.grownBy w1 r) (h2 : w1.grownBy w2 r) : w.grownBy w2 r :=
  ⟨h2.os.trans h1.os, h2.tape.trans h1.tape, h2.output.trans h1.output, Nat.le_trans h1.size h2.size, fun k hk hn => (h2.block k (by have := h1.size; omega) hn).trans (h1.block k hk hn)⟩
theorem OwnI.nil (w : World) (B : Nat) : OwnI w B (.slice none 0 0) [] := World.ownsRow_nil _ _ _ _
theorem below_of_grown {w w' : World} {v : Value} {B : Nat} (hg : w.grownBy w' v.ownBlock) (hB : ∀ b, v.ownBlock = some b → B ≤ b) (hs : B ≤ w.heap.size) : Below B w w' :=
  ⟨hg.os, hg.tape, hg.output, hg.size, fun k hk => hg.block k (by omega) (fun e => by have := hB k e.symm; omega)⟩

def szF (left : Int) (n : Nat) : Int := if left - n < 0 then -1 else left - n
theorem szIntS_any (a : Option Addr) (n cap : Nat) (l : Int) (w : World) (h0 : 0 ≤ l) (h1 : l ≤ 1048576) (hn : n ≤ 9223372036854775807) :
    Calls Tryd.prog 38 #[.slice a n cap, .int .i64 l] w fun e w' => e = .returned (.int .i64 (szF l n)) ∧ w = w' := by
  by_cases h : l - n < 0
  · go_enter Tryd.func38, Tryd.ntmps38
    go_wp2
    go_ret
    exact ⟨ret_int (by simp [szF, h]), rfl⟩
  · go_enter Tryd.func38, Tryd.ntmps38
    go_wp2
    go_ret
    exact ⟨ret_int (by rw [szF, if_neg (by omega)]), rfl⟩

theorem szOrder_any (n : Int) (a : Option Addr) (len cap : Nat) (l : Int) (w : World) (h0 : 0 ≤ l) (h1 : l ≤ 1048576) (hn : len ≤ 9223372036854775807) :
    Calls Tryd.prog 12 #[.agg #[.int .i64 n, .slice a len cap], .int .i64 l] w fun e w' => e = .returned (.int .i64 (szF l len)) ∧ Below w.heap.size w w' := by
  by_cases h : l - len < 0
  · have hs : szF l len = -1 := by simp [szF, h]
    rw [hs]
    have HS := Lib.hid hs
    clear hs
    go_enter Tryd.func12, Tryd.ntmps12
    go_wp2_with (go_at_call 38; refine (szIntS_any _ _ _ _ _ h0 h1 hn).mono ?_; rintro e w' ⟨rfl, rfl⟩; rw [HS.out])
    go_ret
    exact ⟨rfl, (Below.refl _ _).alloc (Nat.le_refl _) _⟩
  · have hs : szF l len = l - len := by rw [szF, if_neg (by omega)]
    have hp : 0 ≤ szF l len := by omega
    clear hs
    go_enter Tryd.func12, Tryd.ntmps12
    go_wp2_with (go_at_call 38; refine (szIntS_any _ _ _ _ _ h0 h1 hn).mono ?_; rintro e w' ⟨rfl, rfl⟩)
    go_ret
    exact ⟨rfl, (Below.refl _ _).alloc (Nat.le_refl _) _⟩

theorem szOrder_ok {n : Int} {a : Option Addr} {len cap : Nat} {l : Int} {w : World} (h1 : l ≤ 1048576) (h : len ≤ l) :
    Calls Tryd.prog 12 #[.agg #[.int .i64 n, .slice a len cap], .int .i64 l] w fun e w' => e = .returned (.int .i64 (l - len)) ∧ Below w.heap.size w w' :=
  (szOrder_any n a len cap l w (by omega) h1 (by omega)).mono (fun e w' hh => ⟨by rw [hh.1, szF, if_neg (by omega)], hh.2⟩)
theorem szOrder_no {n : Int} {a : Option Addr} {len cap : Nat} {l : Int} {w : World} (h0 : 0 ≤ l) (h1 : l ≤ 1048576) (h : l < len) (hl : len ≤ 9223372036854775807) :
    Calls Tryd.prog 12 #[.agg #[.int .i64 n, .slice a len cap], .int .i64 l] w fun e w' => e = .returned (.int .i64 (-1)) ∧ Below w.heap.size w w' :=
  (szOrder_any n a len cap l w h0 h1 hl).mono (fun e w' hh => ⟨by rw [hh.1, szF, if_pos (by omega)], hh.2⟩)

theorem set_step (xs : List Int) (k : Nat) (h : k < xs.length) :
    ((xs.take k ++ List.replicate (xs.length - k) (0:Int)).map (Value.int .i64)).set k (.int .i64 (nth xs k)) = (xs.take (k+1) ++ List.replicate (xs.length - (k+1)) (0:Int)).map (Value.int .i64) := by
  apply List.ext_getElem?
  intro j
  have hk : (xs.take k).length = k := by simp; omega
  have hk1 : (xs.take (k+1)).length = k+1 := by simp; omega
  rw [List.getElem?_set]
  by_cases hj : k = j
  · subst hj
    rw [if_pos rfl, if_pos (by simp; omega), List.getElem?_map, List.getElem?_append_left (by omega)]
    simp [nth, h]
  · simp only [hj, if_false, List.getElem?_map, List.getElem?_append, hk, hk1, List.getElem?_take, List.getElem?_replicate]
    by_cases h1 : j < k
    · have h2 : j < k + 1 := by omega
      simp [h1, h2]
    · have h2 : ¬ j < k + 1 := by omega
      have h3 : j - k < xs.length - k ↔ j - (k+1) < xs.length - (k+1) := by omega
      simp [h1, h2, h3]
theorem toIntS_any (a : Option Addr) (xs : List Int) (cap : Nat) (w : World) (hx : Rd w a xs) (hn : xs.length ≤ 1048576) :
    Calls Tryd.prog 28 #[.slice a xs.length cap] w fun e w' => ∃ a' cap', e = .returned (.slice a' xs.length cap') ∧ OwnI w' w.heap.size (.slice a' xs.length cap') xs ∧ Below w.heap.size w w' := by
  obtain ⟨i0, hi, hz0, hz1, hz2⟩ := info_parts infoInt
  go_enter Tryd.func28, Tryd.ntmps28
  go_wp2_with (at_make; refine wpList_make_full _ rfl (.tmp 6) (.tmp 6) 22 rfl w.heap.size 3 i0 (.int .i64 0) 1 Tryd.underlying22 hi hz0 hz1 .i64 .i64 _ _ xs.length rfl rfl rfl rfl (by rw [hz2]; omega) (by unfold maxLen; omega) (Nat.le_refl _) ?_; intro w1 hown hgrow)
  have hb0 : Below w.heap.size w w1 := (Below.refl _ _).grown hgrow (Nat.le_refl _) (fun k h => by cases h)
  have hown0 : w1.ownsRow w.heap.size 3 1 (.slice (some ⟨w.heap.size, 0, none⟩) xs.length xs.length) xs.length ((xs.take 0 ++ List.replicate (xs.length - 0) (0:Int)).map (Value.int .i64)) := by
    simpa [Value.cells, toList_madeCells_one] using hown
  clear hown hgrow
  have hz : w.heap.size < w1.heap.size := by
    have := (World.ownsRow.lt hown0 w.heap.size rfl).2
    omega
  go_loopw [4] (fun i wr => ∃ k : Nat, k ≤ xs.length ∧ i = .int .i64 k ∧ wr.ownsRow w.heap.size 3 1 (.slice (some ⟨w.heap.size, 0, none⟩) xs.length xs.length) xs.length ((xs.take k ++ List.replicate (xs.length - k) (0:Int)).map (Value.int .i64)) ∧ Below w.heap.size w wr) (fun i _ => xs.length - (intOf i).toNat)
  case atStart => exact ⟨0, Nat.zero_le _, rfl, hown0, hb0⟩
  case round =>
    obtain ⟨k, hk, rfl, hown, hb⟩ := hrel
    by_cases hlt : k < xs.length
    · obtain ⟨b, off, rfl, hbl, hc⟩ := hx.cell k hlt
      have hc1 := (hb.cell (p := ⟨b, off + k, none⟩) hbl).trans hc
      have hst := World.ownsRow.stored hown k (.int .i64 (nth xs k))
      rw [set_step xs k hlt] at hst
      have hcc := World.ownsRow.cellAt hown k (by omega)
      have hfr := World.ownsRow.frozenAt hown k
      have hcc' : ∃ u, wr.cell? ⟨w.heap.size, k, none⟩ = some u := by
        rw [hcc]
        exact ⟨_, List.getElem?_eq_getElem (by simp; omega)⟩
      obtain ⟨u, hu⟩ := hcc'
      have Hst := Lib.hid hst
      clear hst hcc hown hc
      go_wp2
      go_roundw
      case rel => exact ⟨k + 1, by omega, by go_num, Hst.out.1, hb.setCell (Nat.le_refl _) _⟩
      case measure => simp [intOf]; omega
    · obtain rfl : k = xs.length := by omega
      go_wp2
      go_ret
      refine ⟨_, _, rfl, ?_, hb⟩
      have : xs.take xs.length ++ List.replicate (xs.length - xs.length) (0:Int) = xs := by simp
      rw [this] at hown
      exact hown

theorem toOrder_any (n : Int) (a : Option Addr) (xs : List Int) (cap : Nat) (w : World) (hx : Rd w a xs) (hn : xs.length ≤ 1048576) :
    Calls Tryd.prog 14 #[.agg #[.int .i64 n, .slice a xs.length cap]] w fun e w' => ∃ a' cap', e = .returned (.agg #[.int .i64 n, .slice a' xs.length cap']) ∧ OwnI w' w.heap.size (.slice a' xs.length cap') xs ∧ Below w.heap.size w w' := by
  go_enter Tryd.func14, Tryd.ntmps14
  go_wp2_with fail
  refine (toIntS_any _ _ _ _ (hx.below (by repeat (first | exact Below.refl _ _ | assumption | refine Below.alloc ?_ (by first | exact Nat.le_refl _ | (simp only [World.size_alloc, World.size_setCell, World.size_drew]; omega) | omega) _ | refine Below.setCell ?_ (by first | exact Nat.le_refl _ | (simp only [World.size_alloc, World.size_setCell, World.size_drew]; omega) | omega) _ | refine Below.drew ?_))) hn).mono ?_
  rintro e w1 ⟨a', cap', rfl, hown, hb⟩
  obtain ⟨hc, hf⟩ := bcell hb
  have hz := hb.size
  simp only [World.size_alloc, World.size_setCell] at hz
  go_wp2
  have hown' := ((((hown.setBelow (p := ⟨w.heap.size + 1 + 1, 1, none⟩) (by first | (simp only [World.size_alloc, World.size_setCell, World.size_drew]; omega) | omega) (.slice a' xs.length cap')).setBelow (p := ⟨w.heap.size + 1, 0, none⟩) (by first | (simp only [World.size_alloc, World.size_setCell, World.size_drew]; omega) | omega) (.int .i64 n)).setBelow (p := ⟨w.heap.size + 1, 1, none⟩) (by first | (simp only [World.size_alloc, World.size_setCell, World.size_drew]; omega) | omega) (.slice a' xs.length cap'))).mono (B' := w.heap.size) (by first | (simp only [World.size_alloc, World.size_setCell, World.size_drew]; omega) | omega)
  have hb' : Below w.heap.size w w1 := Below.trans (by repeat (first | exact Below.refl _ _ | assumption | refine Below.alloc ?_ (by first | exact Nat.le_refl _ | (simp only [World.size_alloc, World.size_setCell, World.size_drew]; omega) | omega) _ | refine Below.setCell ?_ (by first | exact Nat.le_refl _ | (simp only [World.size_alloc, World.size_setCell, World.size_drew]; omega) | omega) _ | refine Below.drew ?_)) (hb.mono (by first | (simp only [World.size_alloc, World.size_setCell, World.size_drew]; omega) | omega))
  refine bodyPost_ret (v := .agg #[.int .i64 n, .slice a' xs.length cap']) (by simp [results, Tryd.results14, go_sem, hc]) rfl ⟨a', cap', rfl, hown', ?_⟩
  exact ((hb'.setCell (by first | exact Nat.le_refl _ | (simp only [World.size_alloc, World.size_setCell, World.size_drew]; omega) | omega) _).setCell (by first | exact Nat.le_refl _ | (simp only [World.size_alloc, World.size_setCell, World.size_drew]; omega) | omega) _).setCell (by first | exact Nat.le_refl _ | (simp only [World.size_alloc, World.size_setCell, World.size_drew]; omega) | omega) _

def eqL (xs ys : List Int) : Bool := decide (xs = ys)
theorem eqIntS_any (a b : Option Addr) (xs ys : List Int) (ca cb : Nat) (w : World) (hx : Rd w a xs) (hy : Rd w b ys) :
    Calls Tryd.prog 16 #[.slice a xs.length ca, .slice b ys.length cb] w fun e w' => e = .returned (.bool (eqL xs ys)) ∧ Below w.heap.size w w' := by
  have hlx := hx.len
  have hly := hy.len
  by_cases hl : xs.length = ys.length
  · have hl' : ((xs.length : Int) != (ys.length : Int)) = false := by simp [hl]
    go_enter Tryd.func16, Tryd.ntmps16
    have HL := Lib.hid hl
    clear hl
    go_wp2_with fail
    go_loopw [5] (fun i wr => ∃ k : Nat, k ≤ xs.length ∧ i = .int .i64 k ∧ xs.take k = ys.take k ∧ Below w.heap.size w wr) (fun i _ => xs.length - (intOf i).toNat)
    case atStart => exact ⟨0, Nat.zero_le _, rfl, rfl, Below.refl _ _⟩
    case round =>
      obtain ⟨k, hk, rfl, htk, hb⟩ := hrel
      have HT := Lib.hid htk
      clear htk
      by_cases hlt : k < xs.length
      · have hlt' : k < ys.length := by rw [← HL.out]; exact hlt
        obtain ⟨b1, o1, rfl, hb1, hc1⟩ := (hx.below hb).cell k hlt
        obtain ⟨b2, o2, rfl, hb2, hc2⟩ := (hy.below hb).cell k hlt'
        by_cases he : nth xs k = nth ys k
        · have he' : (nth xs k != nth ys k) = false := by simp [he]
          have HE := Lib.hid he
          clear he
          go_wp2_with fail
          go_quiet (fail)
          go_wp2_with fail
          go_roundw
          case rel =>
            refine ⟨k + 1, by omega, by go_num, ?_, by exact hb.trans (Joins.below_draws _ _ _)⟩
            rw [List.take_succ_eq_append_getElem hlt, List.take_succ_eq_append_getElem hlt', HT.out, ← nth_get, ← nth_get, HE.out]
          case measure => simp [intOf]; omega
        · have he' : (nth xs k != nth ys k) = true := by simp [he]
          have hne : eqL xs ys = false := by
            simp only [eqL, decide_eq_false_iff_not]
            intro e
            subst e
            exact he rfl
          have HN := Lib.hid hne
          clear he hne
          go_wp2_with fail
          go_quiet (fail)
          go_wp2_with fail
          go_ret
          exact ⟨ret_bool HN.out.symm, hb.trans (Joins.below_draws _ _ _)⟩
      · go_wp2_with fail
        go_ret
        refine ⟨ret_bool ?_, hb⟩
        have h1 := HT.out
        rw [List.take_of_length_le (by omega), List.take_of_length_le (by rw [← HL.out]; omega)] at h1
        simp [eqL, h1]
  · have hl' : ((xs.length : Int) != (ys.length : Int)) = true := by simp; omega
    have hne : eqL xs ys = false := by
      simp only [eqL, decide_eq_false_iff_not]
      intro e
      exact hl (by rw [e])
    have HN := Lib.hid hne
    clear hl hne
    go_enter Tryd.func16, Tryd.ntmps16
    go_wp2_with fail
    go_ret
    exact ⟨ret_bool HN.out.symm, Below.refl _ _⟩
theorem eqL_self (xs : List Int) : eqL xs xs = true := by simp [eqL]

def eqO (n : Int) (xs : List Int) (m : Int) (ys : List Int) : Bool := decide (n = m) && eqL xs ys
theorem eqO_refl (n : Int) (xs : List Int) : eqO n xs n xs = true := by simp [eqO, eqL]
theorem eqOrder_any (n m : Int) (a b : Option Addr) (xs ys : List Int) (ca cb : Nat) (w : World) (hx : Rd w a xs) (hy : Rd w b ys) :
    Calls Tryd.prog 17 #[.agg #[.int .i64 n, .slice a xs.length ca], .agg #[.int .i64 m, .slice b ys.length cb]] w fun e w' => e = .returned (.bool (eqO n xs m ys)) ∧ Below w.heap.size w w' := by
  by_cases hn : n = m
  · have hn' : (n != m) = false := by simp [hn]
    have HN := Lib.hid hn
    clear hn
    cases he : eqL xs ys
    all_goals
      have HO : Hid (eqO n xs m ys = eqL xs ys) := by simp [Hid, eqO, HN.out]
      have HE := Lib.hid he
      clear he
      go_enter Tryd.func17, Tryd.ntmps17
      go_wp2_with fail
      refine (eqIntS_any _ _ xs ys _ _ _ (hx.below (by repeat (first | exact Below.refl _ _ | assumption | refine Below.alloc ?_ (by first | exact Nat.le_refl _ | (simp only [World.size_alloc, World.size_setCell, World.size_drew]; omega) | omega) _ | refine Below.setCell ?_ (by first | exact Nat.le_refl _ | (simp only [World.size_alloc, World.size_setCell, World.size_drew]; omega) | omega) _ | refine Below.drew ?_))) (hy.below (by repeat (first | exact Below.refl _ _ | assumption | refine Below.alloc ?_ (by first | exact Nat.le_refl _ | (simp only [World.size_alloc, World.size_setCell, World.size_drew]; omega) | omega) _ | refine Below.setCell ?_ (by first | exact Nat.le_refl _ | (simp only [World.size_alloc, World.size_setCell, World.size_drew]; omega) | omega) _ | refine Below.drew ?_)))).mono ?_
      rintro e w1 ⟨rfl, hb⟩
      rw [HE.out]
      obtain ⟨hc, hf⟩ := bcell hb
      go_wp2_with fail
      go_ret
      exact ⟨ret_bool (by rw [HO.out, HE.out]), Below.trans (by repeat (first | exact Below.refl _ _ | assumption | refine Below.alloc ?_ (by first | exact Nat.le_refl _ | (simp only [World.size_alloc, World.size_setCell, World.size_drew]; omega) | omega) _ | refine Below.setCell ?_ (by first | exact Nat.le_refl _ | (simp only [World.size_alloc, World.size_setCell, World.size_drew]; omega) | omega) _ | refine Below.drew ?_)) (hb.mono (by first | (simp only [World.size_alloc, World.size_setCell, World.size_drew]; omega) | omega))⟩
  · have hn' : (n != m) = true := by simp [hn]
    have HO : Hid (eqO n xs m ys = false) := by simp [Hid, eqO, hn]
    clear hn
    go_enter Tryd.func17, Tryd.ntmps17
    go_wp2_with fail
    go_ret
    exact ⟨ret_bool HO.out.symm, (by repeat (first | exact Below.refl _ _ | assumption | refine Below.alloc ?_ (by first | exact Nat.le_refl _ | (simp only [World.size_alloc, World.size_setCell, World.size_drew]; omega) | omega) _ | refine Below.setCell ?_ (by first | exact Nat.le_refl _ | (simp only [World.size_alloc, World.size_setCell, World.size_drew]; omega) | omega) _ | refine Below.drew ?_))⟩

/-- the first answer that a function gives below n -/
def find1 {α : Type} (f : Nat → Option α) (n : Nat) : Option α := (List.range n).findSome? f
theorem find1_none {α : Type} {f : Nat → Option α} {n : Nat} (h : ∀ j, j < n → f j = none) : find1 f n = none := by
  rw [find1, List.findSome?_eq_none_iff]
  intro x hx
  exact h x (by simpa using hx)
theorem find1_succ {α : Type} {f : Nat → Option α} (n : Nat) : find1 f (n+1) = (find1 f n).or (f n) := by
  rw [find1, List.range_succ, List.findSome?_append]
  simp [find1, List.findSome?]
  cases f n <;> rfl
theorem find1_some {α : Type} {f : Nat → Option α} {x : α} : ∀ {n k : Nat}, k < n → f k = some x → (∀ j, j < k → f j = none) → find1 f n = some x
  | 0, k, hk, _, _ => by omega
  | n+1, k, hk, h1, h2 => by
    rw [find1_succ]
    by_cases e : k = n
    · subst e
      rw [find1_none h2, h1]; rfl
    · rw [find1_some (n := n) (by omega) h1 h2]; rfl
theorem find1_congr {α : Type} {f g : Nat → Option α} {n : Nat} (h : ∀ j, j < n → f j = g j) : find1 f n = find1 g n := by
  unfold find1
  induction n with
  | zero => rfl
  | succ n ih =>
    have := ih (fun j hj => h j (by omega))
    rw [List.range_succ, List.findSome?_append, List.findSome?_append, this]
    congr 1
    simp [List.findSome?, h n (by omega)]
theorem find1_ex {α : Type} {f : Nat → Option α} {x : α} : ∀ {n : Nat}, find1 f n = some x → ∃ k, k < n ∧ f k = some x ∧ ∀ j, j < k → f j = none
  | 0, h => by simp [find1] at h
  | n+1, h => by
    rw [find1_succ] at h
    cases hf : find1 f n with
    | none =>
      rw [hf] at h
      refine ⟨n, by omega, by simpa using h, fun j hj => ?_⟩
      rw [find1, List.findSome?_eq_none_iff] at hf
      exact hf j (by simpa using hj)
    | some y =>
      rw [hf] at h
      have e : y = x := by simpa using h
      subst e
      obtain ⟨k, hk, h1, h2⟩ := find1_ex hf
      exact ⟨k, by omega, h1, h2⟩
theorem find1_map {α β : Type} {f : Nat → Option α} {g : α → β} {n : Nat} : find1 (fun j => (f j).map g) n = (find1 f n).map g := by
  induction n with
  | zero => rfl
  | succ n ih => rw [find1_succ, find1_succ, ih]; cases find1 f n <;> rfl

theorem wrap64_small (n : Int) (h0 : -9223372036854775808 ≤ n) (h1 : n ≤ 9223372036854775807) : IntKind.i64.wrap n = n := by
  simp only [IntKind.wrap, IntKind.bits, IntKind.signed]
  simp
  omega
theorem i64_wrap (n : Int) : IntKind.i64.wrap n = wrap64 n := IntWalk.i64_left n
theorem ofInt_i64 (a : Nat) (ha : a < 9223372036854775808) : (BitVec.ofInt 64 (a : Int)).toNat = a := by
  simp
  omega
theorem and_nat (a b : Nat) (ha : a < 9223372036854775808) (hb : b < 9223372036854775808) : bits .and .i64 (a : Int) (b : Int) = ((a &&& b : Nat) : Int) := by
  have hx : a &&& b < 2 ^ 63 := Nat.and_lt_two_pow _ (by omega)
  show IntKind.i64.wrap ((BitVec.ofInt 64 (a : Int) &&& BitVec.ofInt 64 (b : Int)).toNat : Int) = _
  rw [BitVec.toNat_and, ofInt_i64 a ha, ofInt_i64 b hb, wrap64_small _ (by omega) (by omega)]
theorem or_nat (a b : Nat) (ha : a < 9223372036854775808) (hb : b < 9223372036854775808) : bits .or .i64 (a : Int) (b : Int) = ((a ||| b : Nat) : Int) := by
  have hx : a ||| b < 2 ^ 63 := Nat.or_lt_two_pow (by omega) (by omega)
  show IntKind.i64.wrap ((BitVec.ofInt 64 (a : Int) ||| BitVec.ofInt 64 (b : Int)).toNat : Int) = _
  rw [BitVec.toNat_or, ofInt_i64 a ha, ofInt_i64 b hb, wrap64_small _ (by omega) (by omega)]
/-- a set without the elements of another one -/
def sub (a b : Nat) : Nat := a ^^^ (a &&& b)
theorem testBit_sub (a b i : Nat) : (sub a b).testBit i = (a.testBit i && !b.testBit i) := by
  simp [sub, Nat.testBit_xor, Nat.testBit_and]
  cases a.testBit i <;> cases b.testBit i <;> rfl
theorem sub_lt {a b n : Nat} (h : a < 2 ^ n) : sub a b < 2 ^ n := by
  unfold sub
  exact Nat.xor_lt_two_pow h (by rw [Nat.and_comm]; exact Nat.and_lt_two_pow _ h)
theorem sub_nat (a b : Nat) (ha : a < 9223372036854775808) (hb : b < 9223372036854775808) : bits .andNot .i64 (a : Int) (b : Int) = ((sub a b : Nat) : Int) := by
  have hs : sub a b < 2 ^ 63 := sub_lt (by omega)
  show IntKind.i64.wrap ((BitVec.ofInt 64 (a : Int) &&& ~~~BitVec.ofInt 64 (b : Int)).toNat : Int) = _
  have e : (BitVec.ofInt 64 (a : Int) &&& ~~~BitVec.ofInt 64 (b : Int)).toNat = sub a b := by
    apply Nat.eq_of_testBit_eq
    intro i
    rw [BitVec.testBit_toNat, BitVec.getLsbD_and, BitVec.getLsbD_not, testBit_sub, ← BitVec.testBit_toNat, ← BitVec.testBit_toNat, ofInt_i64 a ha, ofInt_i64 b hb]
    by_cases hi : i < 64
    · simp [hi]
    · have : a.testBit i = false := Nat.testBit_lt_two_pow (Nat.lt_of_lt_of_le (by omega : a < 2 ^ 64) (Nat.pow_le_pow_right (by omega) (by omega)))
      simp [this]
  rw [e, wrap64_small _ (by omega) (by omega)]
theorem shr_nat (s i : Nat) (hs : s < 9223372036854775808) : (s : Int) / (2 ^ min i 64) = ((s >>> i : Nat) : Int) := by
  rw [Nat.shiftRight_eq_div_pow]
  by_cases h : i ≤ 64
  · rw [Nat.min_eq_left h]
    simp
  · rw [Nat.min_eq_right (by omega)]
    have : 2 ^ 64 ≤ 2 ^ i := Nat.pow_le_pow_right (by omega) (by omega)
    rw [Nat.div_eq_of_lt (by omega)]
    omega
theorem bit_and (s i : Nat) (hs : s < 9223372036854775808) : (bits .and .i64 ((s >>> i : Nat) : Int) 1 == 1) = s.testBit i := by
  have h1 : s >>> i ≤ s := by rw [Nat.shiftRight_eq_div_pow]; exact Nat.div_le_self _ _
  have := and_nat (s >>> i) 1 (by omega) (by omega)
  rw [show ((1 : Nat) : Int) = 1 from rfl] at this
  rw [this, Nat.testBit, Nat.and_one_is_mod, Nat.and_comm, Nat.and_one_is_mod]
  rcases Nat.mod_two_eq_zero_or_one (s >>> i) with h | h <;> simp [h]
theorem bit_mod (s i : Nat) : (((s >>> i : Nat) : Int) % 2 == 1) = s.testBit i := by
  rw [Nat.testBit, Nat.and_comm, Nat.and_one_is_mod]
  rcases Nat.mod_two_eq_zero_or_one (s >>> i) with h | h
  · have h2 : ((s >>> i : Nat) : Int) % 2 = 0 := by omega
    rw [h2, h]; rfl
  · have h2 : ((s >>> i : Nat) : Int) % 2 = 1 := by omega
    rw [h2, h]; rfl
theorem bit_tmod (s i : Nat) : (((s >>> i : Nat) : Int).tmod 2 == 1) = s.testBit i := by
  rw [Int.tmod_eq_emod_of_nonneg (Int.natCast_nonneg _), bit_mod]
/-- is i in the set s? -/
def hasB (s i : Int) : Bool := s.toNat.testBit i.toNat
theorem has_and {s i : Int} (h0 : 0 ≤ s) (h1 : s ≤ 9223372036854775807) (hi : 0 ≤ i) : (bits .and .i64 (s / 2 ^ min i.toNat 64) 1 == 1) = hasB s i := by
  obtain ⟨S, rfl⟩ := Int.eq_ofNat_of_zero_le h0
  rw [shr_nat S _ (by omega), bit_and S _ (by omega)]
  rfl
theorem has_mod {s i : Int} (h0 : 0 ≤ s) (h1 : s ≤ 9223372036854775807) (hi : 0 ≤ i) : ((s / 2 ^ min i.toNat 64).tmod 2 == 1) = hasB s i := by
  obtain ⟨S, rfl⟩ := Int.eq_ofNat_of_zero_le h0
  rw [shr_nat S _ (by omega), bit_tmod S]
  rfl
theorem pow_w {k : Nat} (h : k < 62) : wrap64 (2 ^ k) = ((2 ^ k : Nat) : Int) := by
  have : 2 ^ k ≤ 2 ^ 61 := Nat.pow_le_pow_right (by omega) (by omega)
  rw [show ((2:Int) ^ k) = ((2 ^ k : Nat) : Int) by simp]
  generalize hp : 2 ^ k = p at *
  exact IntWalk.wrap64_in _ ⟨by omega, by omega⟩
theorem or_bit {b k : Nat} (hb : b < 4611686018427387904) (hk : k < 62) : bits .or .i64 (b : Int) (wrap64 (2 ^ k)) = ((b ||| 2 ^ k : Nat) : Int) := by
  rw [pow_w hk]
  have : 2 ^ k ≤ 2 ^ 61 := Nat.pow_le_pow_right (by omega) (by omega)
  exact or_nat _ _ (by omega) (by omega)
theorem or_i {a b : Int} (ha : 0 ≤ a) (ha1 : a < 9223372036854775808) (hb : 0 ≤ b) (hb1 : b < 9223372036854775808) : bits .or .i64 a b = ((a.toNat ||| b.toNat : Nat) : Int) := by
  obtain ⟨A, rfl⟩ := Int.eq_ofNat_of_zero_le ha
  obtain ⟨B, rfl⟩ := Int.eq_ofNat_of_zero_le hb
  exact or_nat A B (by omega) (by omega)
theorem sub_i {a b : Int} (ha : 0 ≤ a) (ha1 : a < 9223372036854775808) (hb : 0 ≤ b) (hb1 : b < 9223372036854775808) : bits .andNot .i64 a b = ((sub a.toNat b.toNat : Nat) : Int) := by
  obtain ⟨A, rfl⟩ := Int.eq_ofNat_of_zero_le ha
  obtain ⟨B, rfl⟩ := Int.eq_ofNat_of_zero_le hb
  exact sub_nat A B (by omega) (by omega)
theorem or_lt {a b n : Nat} (ha : a < 2 ^ n) (hb : b < 2 ^ n) : a ||| b < 2 ^ n := Nat.or_lt_two_pow ha hb
theorem two_lt {k n : Nat} (h : k < n) : 2 ^ k < 2 ^ n := Nat.pow_lt_pow_right (by omega) h
theorem testBit_two (k i : Nat) : (2 ^ k).testBit i = decide (k = i) := Nat.testBit_two_pow

/-- the elements of a set that are less than k, in order -/
def elemsTo (s : Nat) : Nat → List Int
  | 0 => []
  | k+1 => if s.testBit k then elemsTo s k ++ [(k : Int)] else elemsTo s k
theorem elemsTo_len (s : Nat) : ∀ k, (elemsTo s k).length ≤ k
  | 0 => by simp [elemsTo]
  | k+1 => by
    have := elemsTo_len s k
    simp only [elemsTo]
    split <;> simp <;> omega
theorem mem_elemsTo (s : Nat) (x : Int) : ∀ k, x ∈ elemsTo s k ↔ ∃ i : Nat, i < k ∧ s.testBit i = true ∧ x = i
  | 0 => by simp [elemsTo]
  | k+1 => by
    have ih := mem_elemsTo s x k
    simp only [elemsTo]
    cases hb : s.testBit k
    · rw [if_neg (by simp), ih]
      constructor
      · rintro ⟨i, h1, h2, h3⟩
        exact ⟨i, by omega, h2, h3⟩
      · rintro ⟨i, h1, h2, h3⟩
        have : i ≠ k := fun e => by rw [e, hb] at h2; cases h2
        exact ⟨i, by omega, h2, h3⟩
    · rw [if_pos rfl, List.mem_append, ih]
      constructor
      · rintro (⟨i, h1, h2, h3⟩ | h)
        · exact ⟨i, by omega, h2, h3⟩
        · exact ⟨k, by omega, hb, by simpa using h⟩
      · rintro ⟨i, h1, h2, h3⟩
        by_cases e : i = k
        · exact .inr (by simp [h3, e])
        · exact .inl ⟨i, by omega, h2, h3⟩
theorem elemsTo_more (s k : Nat) (h : s >>> k = 0) : ∀ m, elemsTo s (k + m) = elemsTo s k
  | 0 => rfl
  | m+1 => by
    have hb : s.testBit (k + m) = false := by
      rw [Nat.testBit]
      have : s >>> (k + m) = 0 := by rw [Nat.shiftRight_add, h]; simp
      simp [this]
    show elemsTo s (k + m + 1) = _
    simp only [elemsTo, hb]
    exact elemsTo_more s k h m
/-- all elements of a set below 1024 -/
def elems (s : Nat) : List Int := elemsTo s 10
theorem elems_at {s k : Nat} (h : s >>> k = 0) (hk : k ≤ 10) : elemsTo s k = elems s := by
  have := elemsTo_more s k h (10 - k)
  rw [show k + (10 - k) = 10 from by omega] at this
  exact this.symm
theorem elems_len (s : Nat) : (elems s).length ≤ 10 := elemsTo_len s 10
theorem mem_elems {s : Nat} (hs : s < 1024) {x : Int} : x ∈ elems s ↔ ∃ i : Nat, s.testBit i = true ∧ x = i := by
  rw [elems, mem_elemsTo]
  constructor
  · rintro ⟨i, _, h2, h3⟩
    exact ⟨i, h2, h3⟩
  · rintro ⟨i, h2, h3⟩
    refine ⟨i, ?_, h2, h3⟩
    rcases Nat.lt_or_ge i 10 with h | h
    · exact h
    · have : s < 2 ^ i := Nat.lt_of_lt_of_le hs (Nat.pow_le_pow_right (by omega : 0 < 2) h)
      rw [Nat.testBit_lt_two_pow this] at h2
      cases h2
theorem nth_mem {xs : List Int} {k : Nat} (h : k < xs.length) : nth xs k ∈ xs := by
  rw [nth_get xs k h]; exact List.getElem_mem h
theorem mem_nth {xs : List Int} {x : Int} (h : x ∈ xs) : ∃ k, k < xs.length ∧ nth xs k = x := by
  obtain ⟨k, hk, e⟩ := List.getElem_of_mem h
  exact ⟨k, hk, by rw [nth_get xs k hk, e]⟩

theorem elems_lt {S n : Nat} (hS : S < 2 ^ n) (hn : n ≤ 10) : elems S = elemsTo S n := (elems_at (by rw [Nat.shiftRight_eq_div_pow]; exact Nat.div_eq_of_lt hS) hn).symm

/-- the first answer over a set's elements -/
def findE {α : Type} (s : Nat) (f : Nat → Option α) : Option α := (elems s).findSome? (fun x => f x.toNat)
theorem findE_to {α : Type} (s : Nat) (f : Nat → Option α) : ∀ n, (elemsTo s n).findSome? (fun x => f x.toNat) = find1 (fun b => if s.testBit b then f b else none) n
  | 0 => by simp [elemsTo, find1]
  | n+1 => by
    rw [find1_succ, ← findE_to s f n]
    simp only [elemsTo]
    cases h : s.testBit n
    · simp
    · simp only [if_true, List.findSome?_append]
      congr 1
      simp [List.findSome?]
      cases f n <;> rfl
theorem findE_eq {α : Type} {s n : Nat} (f : Nat → Option α) (hs : s < 2 ^ n) (hn : n ≤ 10) : findE s f = find1 (fun b => if s.testBit b then f b else none) n := by
  rw [findE, elems_lt hs hn, findE_to]
def four (a b c d : Nat) : List Int := [(a : Int), (b : Int), (c : Int), (d : Int)]
theorem findE_ex {α : Type} {s : Nat} {f : Nat → Option α} {y : α} (hs : s < 1024) (h : findE s f = some y) : ∃ d, s.testBit d = true ∧ f d = some y := by
  rw [findE_eq (n := 10) f hs (by omega)] at h
  obtain ⟨k, _, h1, _⟩ := find1_ex h
  split at h1
  · exact ⟨k, by assumption, h1⟩
  · cases h1
theorem findE_no {α : Type} {s : Nat} {f : Nat → Option α} (hs : s < 1024) (h : ∀ d, s.testBit d = true → f d = none) : findE s f = none := by
  rw [findE_eq (n := 10) f hs (by omega)]
  refine find1_none (fun j _ => ?_)
  split
  · exact h j (by assumption)
  · rfl
theorem has_bit (s : Int) (b : Nat) : hasB s (b : Int) = s.toNat.testBit b := rfl
theorem findE_at {α : Type} {s p : Nat} {f : Nat → Option α} {y : α} (hp : p < (elems s).length) (h : f (nth (elems s) p).toNat = some y) (hb : ∀ q, q < p → f (nth (elems s) q).toNat = none) : findE s f = some y := by
  unfold findE
  rw [← List.take_append_drop p (elems s), List.findSome?_append, List.drop_eq_getElem_cons hp]
  have h1 : (List.take p (elems s)).findSome? (fun x => f x.toNat) = none := by
    rw [List.findSome?_eq_none_iff]
    intro x hx
    obtain ⟨q, hq, e⟩ := List.getElem_of_mem hx
    rw [List.length_take] at hq
    have := hb q (by omega)
    rw [nth_get _ _ (by omega)] at this
    rw [← e, List.getElem_take]
    exact this
  rw [nth_get _ _ hp] at h
  rw [h1, List.findSome?_cons, h]
  rfl
theorem findE_nil {α : Type} {s : Nat} {f : Nat → Option α} (hb : ∀ q, q < (elems s).length → f (nth (elems s) q).toNat = none) : findE s f = none := by
  unfold findE
  rw [List.findSome?_eq_none_iff]
  intro x hx
  obtain ⟨q, hq, rfl⟩ := mem_nth hx
  exact hb q hq

def inB (n lo hi : Int) : Bool := decide (lo ≤ n) && decide (n ≤ hi)
theorem inB_iff {n lo hi : Int} : inB n lo hi = true ↔ lo ≤ n ∧ n ≤ hi := by simp [inB]
theorem inB_no {n lo hi : Int} : inB n lo hi = false ↔ n < lo ∨ hi < n := by
  rw [← Bool.not_eq_true, inB_iff]
  omega

def allB (xs : List Int) (lo hi : Int) : Bool := xs.all (fun x => inB x lo hi)
theorem allB_take (xs : List Int) (lo hi : Int) (k : Nat) (h : k < xs.length) : allB (xs.take (k+1)) lo hi = (allB (xs.take k) lo hi && inB (nth xs k) lo hi) := by
  simp only [allB]
  rw [List.take_succ_eq_append_getElem h, List.all_append]
  simp [nth, h]
theorem allB_false {xs : List Int} {lo hi : Int} {k : Nat} (h : k < xs.length) (h1 : inB (nth xs k) lo hi = false) : allB xs lo hi = false := by
  simp only [allB, List.all_eq_false]
  exact ⟨xs[k], List.getElem_mem h, by simpa [nth, h] using h1⟩
theorem allB_nth {xs : List Int} {lo hi : Int} (h : allB xs lo hi = true) {k : Nat} (hk : k < xs.length) : lo ≤ nth xs k ∧ nth xs k ≤ hi := by
  simp only [allB, List.all_eq_true] at h
  have := inB_iff.1 (h _ (List.getElem_mem hk))
  rwa [← nth_get xs k hk] at this

/-- is it a relation? -/
def relB (n : Int) (xs : List Int) : Bool := inB n 0 10 && decide ((xs.length : Int) = n) && allB xs 0 (2 ^ n.toNat - 1)
theorem relB_iff {n : Int} {xs : List Int} : relB n xs = true ↔ (0 ≤ n ∧ n ≤ 10) ∧ (xs.length : Int) = n ∧ allB xs 0 (2 ^ n.toNat - 1) = true := by
  simp [relB, inB_iff, and_assoc]
theorem pow10 {n : Nat} (h : n ≤ 10) : (1 : Int) ≤ 2 ^ n ∧ (2 : Int) ^ n ≤ 1024 := by
  have h1 : 2 ^ n ≤ 2 ^ 10 := Nat.pow_le_pow_right (by omega) h
  have h2 : 1 ≤ 2 ^ n := Nat.one_le_two_pow
  have h3 : ((2 ^ n : Nat) : Int) = (2 : Int) ^ n := by simp
  omega
theorem full_eq {n : Int} (h0 : 0 ≤ n) (h1 : n ≤ 10) : wrap64 (wrap64 (2 ^ n.toNat) - 1) = 2 ^ n.toNat - 1 := by
  have h2 := pow10 (n := n.toNat) (by omega)
  generalize (2 : Int) ^ n.toNat = p at *
  rw [IntWalk.wrap64_in p ⟨by omega, by omega⟩, IntWalk.wrap64_in _ ⟨by omega, by omega⟩]
structure RelP (n : Int) (xs : List Int) : Prop where
  n0 : 0 ≤ n
  n1 : n ≤ 10
  len : (xs.length : Int) = n
  pos : ∀ k, k < xs.length → 0 ≤ nth xs k
  lt : ∀ k, k < xs.length → nth xs k < 2 ^ xs.length
  small : ∀ k, k < xs.length → nth xs k < 1024
theorem relB_p {n : Int} {xs : List Int} (h : relB n xs = true) : RelP n xs := by
  obtain ⟨⟨h0, h1⟩, h2, h3⟩ := relB_iff.1 h
  have e : n.toNat = xs.length := by omega
  rw [e] at h3
  have hp := pow10 (n := xs.length) (by omega)
  exact ⟨h0, h1, h2, fun k hk => (allB_nth h3 hk).1, fun k hk => by have := (allB_nth h3 hk).2; omega, fun k hk => by have := (allB_nth h3 hk).2; omega⟩

/-- the set of the indices below k of the lists that have i -/
def belowTo (xs : List Int) (i : Int) : Nat → Nat
  | 0 => 0
  | k+1 => if hasB (nth xs k) i then belowTo xs i k ||| 2 ^ k else belowTo xs i k
theorem belowTo_lt (xs : List Int) (i : Int) : ∀ k, belowTo xs i k < 2 ^ k
  | 0 => by simp [belowTo]
  | k+1 => by
    have h := belowTo_lt xs i k
    have h2 : 2 ^ k < 2 ^ (k+1) := two_lt (by omega)
    simp only [belowTo]
    split
    · exact or_lt (by omega) h2
    · omega
theorem belowTo_small (xs : List Int) (i : Int) {k : Nat} (h : k ≤ 10) : belowTo xs i k < 1024 := by
  have h1 := belowTo_lt xs i k
  have h2 : 2 ^ k ≤ 2 ^ 10 := Nat.pow_le_pow_right (by omega) h
  omega
theorem belowTo_bit (xs : List Int) (i : Int) (j : Nat) : ∀ k, (belowTo xs i k).testBit j = (decide (j < k) && hasB (nth xs j) i)
  | 0 => by simp [belowTo]
  | k+1 => by
    have h := belowTo_bit xs i j k
    simp only [belowTo]
    by_cases hjk : j = k
    · subst hjk
      cases hb : hasB (nth xs j) i
      · simp [h]
      · simp [Nat.testBit_or, testBit_two]
    · have e : decide (j < k + 1) = decide (j < k) := by
        rw [decide_eq_decide]; omega
      rw [e, ← h]
      have hkj : ¬ k = j := fun e => hjk e.symm
      cases hb : hasB (nth xs k) i <;> simp [Nat.testBit_or, testBit_two, hkj]

/-- the set of the elements that are indifferent to k -/
def freeN (xs : List Int) (k : Nat) : Nat := sub (2 ^ xs.length - 1) (((nth xs k).toNat ||| belowTo xs k xs.length) ||| 2 ^ k)
theorem free_val {n : Int} {xs : List Int} (hp : RelP n xs) {k : Nat} (hk : k < xs.length) :
    bits .andNot .i64 (wrap64 (wrap64 (2 ^ n.toNat) - 1)) (bits .or .i64 (bits .or .i64 (nth xs k) ((belowTo xs k xs.length : Nat) : Int)) (wrap64 (2 ^ k))) = ((freeN xs k : Nat) : Int) := by
  have hl := hp.len
  have hn := hp.n1
  have h0 := hp.n0
  have e : n.toNat = xs.length := by omega
  have hs := hp.small k hk
  have h1 := hp.pos k hk
  have hb := belowTo_small xs k (k := xs.length) (by omega)
  have hpw := pow10 (n := xs.length) (by omega)
  rw [full_eq h0 hn, e]
  rw [or_i h1 (by omega) (by omega) (by omega)]
  have ho : (nth xs k).toNat ||| (belowTo xs k xs.length) < 2 ^ 10 := or_lt (by omega) (by omega)
  rw [show (((belowTo xs k xs.length : Nat) : Int)).toNat = belowTo xs k xs.length from rfl]
  rw [or_bit (by omega) (by omega)]
  have ho2 : ((nth xs k).toNat ||| (belowTo xs k xs.length)) ||| 2 ^ k < 2 ^ 10 := or_lt ho (two_lt (by omega))
  rw [sub_i (by omega) (by omega) (by omega) (by omega)]
  have e2 : ((2:Int) ^ xs.length - 1).toNat = 2 ^ xs.length - 1 := by
    have : ((2 ^ xs.length : Nat) : Int) = (2 : Int) ^ xs.length := by simp
    omega
  rw [e2]
  rfl
theorem free_val2 {n : Int} {xs : List Int} (hp : RelP n xs) {k : Nat} (hk : k < xs.length) :
    bits .andNot .i64 (2 ^ n.toNat - 1) (bits .or .i64 (bits .or .i64 (nth xs k) ((belowTo xs k xs.length : Nat) : Int)) (wrap64 (2 ^ k))) = ((freeN xs k : Nat) : Int) := by
  rw [← free_val hp hk, full_eq hp.n0 hp.n1]

theorem and_i {a b : Int} (ha : 0 ≤ a) (ha1 : a < 9223372036854775808) (hb : 0 ≤ b) (hb1 : b < 9223372036854775808) : bits .and .i64 a b = ((a.toNat &&& b.toNat : Nat) : Int) := by
  obtain ⟨A, rfl⟩ := Int.eq_ofNat_of_zero_le ha
  obtain ⟨B, rfl⟩ := Int.eq_ofNat_of_zero_le hb
  exact and_nat A B (by omega) (by omega)

/-- the first one of the longest lists whose first element is below k, if the rest behind i is told -/
def bestTo (rest : Nat → List Int) (S : Nat) : Nat → List Int
  | 0 => []
  | k+1 => if S.testBit k then (if (bestTo rest S k).length ≤ (rest k).length then (k : Int) :: rest k else bestTo rest S k) else bestTo rest S k
theorem bestTo_congr {r r' : Nat → List Int} {S : Nat} : ∀ k, (∀ i, i < k → S.testBit i = true → r i = r' i) → bestTo r S k = bestTo r' S k
  | 0, _ => rfl
  | k+1, h => by
    have ih := bestTo_congr k (fun i hi => h i (by omega))
    simp only [bestTo]
    cases hb : S.testBit k
    · simp [ih]
    · rw [ih, h k (by omega) hb]
theorem bestTo_len {r : Nat → List Int} {S d : Nat} : ∀ k, (∀ i, i < k → (r i).length ≤ d) → (bestTo r S k).length ≤ d + 1
  | 0, _ => by simp [bestTo]
  | k+1, h => by
    have ih := bestTo_len (S := S) k (fun i hi => h i (by omega))
    have h2 := h k (by omega)
    simp only [bestTo]
    split
    · split
      · simp; omega
      · exact ih
    · exact ih
def lngD (fl : List Int) : Nat → Nat → List Int
  | 0, _ => []
  | d+1, S => bestTo (fun i => lngD fl d (S &&& (nth fl i).toNat)) S fl.length
theorem lngD_len (fl : List Int) : ∀ d S, (lngD fl d S).length ≤ d
  | 0, _ => Nat.le_refl _
  | d+1, S => bestTo_len _ (fun i _ => lngD_len fl d _)
/-- the first one of the longest lists of elements of S in which what comes behind i is in fl at i -/
def lng (fl : List Int) (S : Nat) : List Int := lngD fl (S+1) S
theorem lng_len (fl : List Int) (S : Nat) : (lng fl S).length ≤ S + 1 := lngD_len fl _ _
/-- no element comes behind itself -/
structure Flw (fl : List Int) : Prop where
  len : fl.length ≤ 10
  ok : ∀ i, i < fl.length → 0 ≤ nth fl i ∧ nth fl i < 1024 ∧ (nth fl i).toNat.testBit i = false
theorem and_less {S x i : Nat} (hS : S.testBit i = true) (hx : x.testBit i = false) : S &&& x < S := by
  have h1 : S &&& x ≤ S := Nat.and_le_left
  rcases Nat.lt_or_eq_of_le h1 with h | h
  · exact h
  · have : (S &&& x).testBit i = true := by rw [h]; exact hS
    rw [Nat.testBit_and, hx] at this
    simp at this
theorem lngD_eq {fl : List Int} (hf : Flw fl) : ∀ (S d : Nat), S < d → lngD fl d S = lng fl S := by
  intro S
  induction S using Nat.strongRecOn with
  | _ S ih =>
    intro d hd
    obtain ⟨e, rfl⟩ : ∃ e, d = e + 1 := ⟨d - 1, by omega⟩
    show bestTo _ S fl.length = bestTo _ S fl.length
    refine bestTo_congr _ (fun i hi hb => ?_)
    have hl := and_less hb (hf.ok i hi).2.2
    rw [ih _ hl e (by omega), ih _ hl S hl]
theorem lng_eq {fl : List Int} (hf : Flw fl) (S : Nat) : lng fl S = bestTo (fun i => lng fl (S &&& (nth fl i).toNat)) S fl.length := by
  show bestTo _ S fl.length = _
  refine bestTo_congr _ (fun i hi hb => ?_)
  exact lngD_eq hf _ _ (and_less hb (hf.ok i hi).2.2)
def stepL (rest : Nat → List Int) (best : List Int) (x : Int) : List Int := if best.length ≤ (rest x.toNat).length then x :: rest x.toNat else best
theorem fold_best (rest : Nat → List Int) (S : Nat) : ∀ k, (elemsTo S k).foldl (stepL rest) [] = bestTo rest S k
  | 0 => rfl
  | k+1 => by
    have ih := fold_best rest S k
    simp only [elemsTo, bestTo]
    cases hb : S.testBit k
    · simpa using ih
    · rw [if_pos rfl, if_pos rfl, List.foldl_append, ih]
      rfl
theorem fold_take {f : List Int → Int → List Int} {es : List Int} {m : Nat} (h : m < es.length) : (es.take (m+1)).foldl f [] = f ((es.take m).foldl f []) (nth es m) := by
  rw [List.take_succ_eq_append_getElem h, List.foldl_append, nth_get _ _ h]; rfl

def okAtB (xs : List Int) (k : Nat) : Bool := !hasB (nth xs k) k && (List.range xs.length).all (fun j => !hasB (nth xs k) j || sub (nth xs j).toNat (nth xs k).toNat == 0)
/-- is it an order? -/
def ordB (n : Int) (xs : List Int) : Bool := relB n xs && (List.range xs.length).all (okAtB xs)
theorem okAtB_iff {xs : List Int} {k : Nat} : okAtB xs k = true ↔ hasB (nth xs k) k = false ∧ ∀ j, j < xs.length → hasB (nth xs k) j = true → sub (nth xs j).toNat (nth xs k).toNat = 0 := by
  simp only [okAtB, Bool.and_eq_true, Bool.not_eq_true', List.all_eq_true, List.mem_range, Bool.or_eq_true, beq_iff_eq]
  constructor
  · rintro ⟨h1, h2⟩
    exact ⟨h1, fun j hj hb => (h2 j hj).resolve_left (by simp [hb])⟩
  · rintro ⟨h1, h2⟩
    refine ⟨h1, fun j hj => ?_⟩
    cases hb : hasB (nth xs k) j
    · exact .inl rfl
    · exact .inr (h2 j hj hb)
theorem ordB_iff {n : Int} {xs : List Int} : ordB n xs = true ↔ relB n xs = true ∧ ∀ k, k < xs.length → okAtB xs k = true := by
  simp [ordB]
theorem ordB_no {n : Int} {xs : List Int} {k : Nat} (hk : k < xs.length) (h : okAtB xs k = false) : ordB n xs = false := by
  rw [← Bool.not_eq_true, ordB_iff]
  rintro ⟨_, h2⟩
  rw [h2 k hk] at h
  cases h
theorem okAtB_has {xs : List Int} {k : Nat} (h : hasB (nth xs k) k = true) : okAtB xs k = false := by
  simp [okAtB, h]
theorem okAtB_sub {xs : List Int} {k j : Nat} (hj : j < xs.length) (h : hasB (nth xs k) j = true) (h2 : sub (nth xs j).toNat (nth xs k).toNat ≠ 0) : okAtB xs k = false := by
  rw [← Bool.not_eq_true, okAtB_iff]
  rintro ⟨_, h3⟩
  exact h2 (h3 j hj h)
theorem sub_zero {a b : Nat} : sub a b = 0 ↔ ∀ i, a.testBit i = true → b.testBit i = true := by
  constructor
  · intro h i hi
    have := testBit_sub a b i
    rw [h, hi] at this
    simpa using this.symm
  · intro h
    apply Nat.eq_of_testBit_eq
    intro i
    rw [testBit_sub]
    cases ha : a.testBit i
    · simp
    · simp [h i ha]
theorem has_lt {n : Int} {xs : List Int} (hp : RelP n xs) {k : Nat} (hk : k < xs.length) {j : Nat} (h : hasB (nth xs k) j = true) : j < xs.length := by
  rcases Nat.lt_or_ge j xs.length with h' | h'
  · exact h'
  · have h1 := hp.lt k hk
    have h0 := hp.pos k hk
    have h2 : (nth xs k).toNat < 2 ^ j := by
      have : (2 : Nat) ^ xs.length ≤ 2 ^ j := Nat.pow_le_pow_right (by omega) h'
      have e : ((2 ^ xs.length : Nat) : Int) = (2 : Int) ^ xs.length := by simp
      omega
    simp only [hasB] at h
    rw [Int.toNat_natCast, Nat.testBit_lt_two_pow h2] at h
    cases h

theorem ord_rel {n : Int} {xs : List Int} (h : ordB n xs = true) : RelP n xs := relB_p (ordB_iff.1 h).1

/-- the list of f 0, .., f (k - 1) -/
def fmap (f : Nat → Int) (k : Nat) : List Int := (List.range k).map f
theorem fmap_len (f : Nat → Int) (k : Nat) : (fmap f k).length = k := by simp [fmap]
theorem fmap_nth (f : Nat → Int) {k i : Nat} (h : i < k) : nth (fmap f k) i = f i := by simp [nth, fmap, h]
theorem fmap_succ (f : Nat → Int) (k : Nat) : fmap f (k+1) = fmap f k ++ [f k] := by simp [fmap, List.range_succ]
/-- one store more into a row that was made -/
theorem fill_step (f : Nat → Int) (m k : Nat) (h : k < m) :
    ((fmap f k ++ List.replicate (m - k) (0:Int)).map (Value.int .i64)).set k (.int .i64 (f k)) = (fmap f (k+1) ++ List.replicate (m - (k+1)) (0:Int)).map (Value.int .i64) := by
  apply List.ext_getElem?
  intro j
  rw [List.getElem?_set]
  by_cases hj : k = j
  · subst hj
    rw [if_pos rfl, if_pos (by simp [fmap_len]; omega), List.getElem?_map, List.getElem?_append_left (by rw [fmap_len]; omega)]
    simp [fmap]
  · simp only [hj, if_false, List.getElem?_map, List.getElem?_append, fmap_len, List.getElem?_replicate]
    by_cases h1 : j < k
    · have h2 : j < k + 1 := by omega
      simp [h1, h2, fmap]
    · have h2 : ¬ j < k + 1 := by omega
      have h3 : j - k < m - k ↔ j - (k+1) < m - (k+1) := by omega
      simp [h1, h2, h3]
theorem fill_end (f : Nat → Int) (m : Nat) : fmap f m ++ List.replicate (m - m) (0:Int) = fmap f m := by simp
/-- the row that a make of m integers has made -/
theorem made_ints {w1 : World} {B : Nat} {v : Value} {m : Nat} (f : Nat → Int) (h : w1.ownsRow B 3 1 v m (madeCells (Value.int .i64 0).cells (m * 1)).toList) :
    w1.ownsRow B 3 1 v m ((fmap f 0 ++ List.replicate (m - 0) (0:Int)).map (Value.int .i64)) := by
  simpa [Value.cells, toList_madeCells_one, fmap] using h

/-- the elements that may come behind i in an antichain -/
def latE (xs : List Int) (i : Nat) : Int := ((sub (freeN xs i) (2 ^ i - 1) : Nat) : Int)
def lats (xs : List Int) : List Int := fmap (latE xs) xs.length
theorem lats_len (xs : List Int) : (lats xs).length = xs.length := fmap_len _ _
theorem freeN_lt {xs : List Int} (h : xs.length ≤ 10) (i : Nat) : freeN xs i < 1024 := by
  have h1 : 2 ^ xs.length - 1 < 2 ^ 10 := by
    have : 2 ^ xs.length ≤ 2 ^ 10 := Nat.pow_le_pow_right (by omega) h
    have := Nat.two_pow_pos xs.length
    omega
  exact sub_lt h1
theorem lats_flw {xs : List Int} (h : xs.length ≤ 10) : Flw (lats xs) :=
  ⟨by rw [lats_len]; exact h, fun i hi => by
    rw [lats_len] at hi
    have e : nth (lats xs) i = latE xs i := fmap_nth _ hi
    have h2 : sub (freeN xs i) (2 ^ i - 1) < 2 ^ 10 := sub_lt (freeN_lt h i)
    rw [e]
    refine ⟨by unfold latE; omega, by unfold latE; omega, ?_⟩
    unfold latE
    rw [Int.toNat_natCast, testBit_sub, freeN, testBit_sub]
    simp [Nat.testBit_or, testBit_two]⟩
theorem lats_nth {xs : List Int} {i : Nat} (hi : i < xs.length) : (nth (lats xs) i).toNat = sub (freeN xs i) (2 ^ i - 1) := by
  rw [show nth (lats xs) i = latE xs i from fmap_nth _ hi, latE, Int.toNat_natCast]
theorem sub_and (S f m : Nat) : sub (S &&& f) m = S &&& sub f m := by
  apply Nat.eq_of_testBit_eq
  intro i
  rw [testBit_sub, Nat.testBit_and, Nat.testBit_and, testBit_sub, Bool.and_assoc]
/-- what LargestAntichain hands back -/
def antL (n : Int) (xs : List Int) : List Int := if ordB n xs then lng (lats xs) (2 ^ xs.length - 1) else []
theorem antL_len (n : Int) (xs : List Int) : (antL n xs).length ≤ 1048576 := by
  unfold antL
  split
  · rename_i h
    have hp := ord_rel h
    have := lng_len (lats xs) (2 ^ xs.length - 1)
    have h2 : 2 ^ xs.length ≤ 2 ^ 10 := Nat.pow_le_pow_right (by omega) (by have := hp.len; have := hp.n1; omega)
    omega
  · simp
theorem full_nat {n : Nat} (h : n ≤ 10) : ((2 : Int) ^ n - 1) = ((2 ^ n - 1 : Nat) : Int) := by
  have h1 := Nat.two_pow_pos n
  have e : ((2 ^ n : Nat) : Int) = (2 : Int) ^ n := by simp
  omega

/-- the elements that are indifferent to all three -/
def thrS (xs : List Int) (a b c : Nat) : Nat := freeN xs a &&& freeN xs b &&& freeN xs c
def thrC (xs : List Int) (a b c : Nat) : Option (List Int) := findE (thrS xs a b c) (fun d => some (four a b c d))
def thrB (xs : List Int) (a b : Nat) : Option (List Int) := findE (nth xs b).toNat (thrC xs a b)
def thrA (xs : List Int) (a : Nat) : Option (List Int) := findE (nth xs a).toNat (thrB xs a)
/-- the first chain of three elements with one that is indifferent to all of them -/
def thrF (xs : List Int) : Option (List Int) := find1 (thrA xs) xs.length
def thrL (n : Int) (xs : List Int) : List Int := if ordB n xs then (thrF xs).getD [] else []
def thrO (n : Int) (xs : List Int) : Bool := ordB n xs && (thrF xs).isSome
theorem rel_lt {n : Int} {xs : List Int} (hp : RelP n xs) {k : Nat} (hk : k < xs.length) : (nth xs k).toNat < 2 ^ xs.length := by
  apply Nat.lt_of_not_le
  intro h
  obtain ⟨i, hi, hb⟩ := Nat.exists_ge_and_testBit_of_ge_two_pow h
  have := has_lt hp hk (j := i) (by rw [has_bit]; exact hb)
  omega
theorem find_has {α : Type} {n : Int} {xs : List Int} (hp : RelP n xs) {k : Nat} (hk : k < xs.length) (f : Nat → Option α) : findE (nth xs k).toNat f = find1 (fun b => if hasB (nth xs k) b = true then f b else none) xs.length := by
  have h10 : xs.length ≤ 10 := by have := hp.len; have := hp.n1; omega
  rw [findE_eq f (rel_lt hp hk) h10]
  rfl
def NoThr (xs : List Int) (k l m : Nat) : Prop := (∀ a, a < k → thrA xs a = none) ∧ (∀ b : Nat, b < l → hasB (nth xs k) b = true → thrB xs k b = none) ∧ ∀ c : Nat, c < m → hasB (nth xs l) c = true → thrC xs k l c = none
theorem NoThr.c {xs : List Int} {k l m : Nat} (h : NoThr xs k l m) (h1 : hasB (nth xs l) m = true → thrC xs k l m = none) : NoThr xs k l (m+1) :=
  ⟨h.1, h.2.1, fun c hc h2 => by
    by_cases e : c = m
    · subst e; exact h1 h2
    · exact h.2.2 c (by omega) h2⟩
theorem NoThr.b {n : Int} {xs : List Int} {k l : Nat} (hp : RelP n xs) (hl : l < xs.length) (h : NoThr xs k l xs.length) : NoThr xs k (l+1) 0 :=
  ⟨h.1, fun b hb h2 => by
    by_cases e : b = l
    · subst e
      rw [thrB, find_has hp hl]
      refine find1_none (fun c hc => ?_)
      split
      · exact h.2.2 c hc (by assumption)
      · rfl
    · exact h.2.1 b (by omega) h2, fun c hc => by omega⟩
theorem NoThr.skip {xs : List Int} {k l : Nat} (h : NoThr xs k l 0) (h1 : hasB (nth xs k) l = false) : NoThr xs k (l+1) 0 :=
  ⟨h.1, fun b hb h2 => by
    by_cases e : b = l
    · subst e; rw [h1] at h2; cases h2
    · exact h.2.1 b (by omega) h2, fun c hc => by omega⟩
theorem NoThr.a {n : Int} {xs : List Int} {k : Nat} (hp : RelP n xs) (hk : k < xs.length) (h : NoThr xs k xs.length 0) : NoThr xs (k+1) 0 0 :=
  ⟨fun a ha => by
    by_cases e : a = k
    · subst e
      rw [thrA, find_has hp hk]
      refine find1_none (fun c hc => ?_)
      split
      · exact h.2.1 c hc (by assumption)
      · rfl
    · exact h.1 a (by omega), fun b hb => by omega, fun c hc => by omega⟩
theorem NoThr.no {xs : List Int} {l m : Nat} (h : NoThr xs xs.length l m) : thrF xs = none := find1_none h.1
theorem NoThr.yes {n : Int} {xs : List Int} {k l m : Nat} {ys : List Int} (hp : RelP n xs) (h : NoThr xs k l m) (hk : k < xs.length) (hl : l < xs.length) (hm : m < xs.length) (h1 : hasB (nth xs k) l = true) (h2 : hasB (nth xs l) m = true) (h3 : thrC xs k l m = some ys) : thrF xs = some ys := by
  refine find1_some hk ?_ h.1
  rw [thrA, find_has hp hk]
  refine find1_some hl ?_ (fun b hb => ?_)
  · rw [if_pos h1, thrB, find_has hp hl]
    refine find1_some hm (by rw [if_pos h2, h3]) (fun c hc => ?_)
    split
    · exact h.2.2 c hc (by assumption)
    · rfl
  · split
    · exact h.2.1 b hb (by assumption)
    · rfl
theorem thrS_lt {xs : List Int} (h10 : xs.length ≤ 10) (a b c : Nat) : thrS xs a b c < 1024 := Nat.lt_of_le_of_lt Nat.and_le_left (Nat.lt_of_le_of_lt Nat.and_le_left (freeN_lt h10 a))
theorem thrC_zero {xs : List Int} {a b c : Nat} (h : thrS xs a b c = 0) : thrC xs a b c = none := by
  rw [thrC, h]
  exact findE_no (by omega) (fun d hd => by simp at hd)
theorem thrL_4 {xs ys : List Int} (h : thrF xs = some ys) : ys.length = 4 := by
  obtain ⟨a, _, h1, _⟩ := find1_ex h
  have key : ∀ {s : Nat} {f : Nat → Option (List Int)} {y : List Int}, findE s f = some y → ∃ x, f x = some y := by
    intro s f y h
    obtain ⟨x, hx, e⟩ := List.exists_of_findSome?_eq_some h
    exact ⟨x.toNat, e⟩
  obtain ⟨b, h2⟩ := key h1
  obtain ⟨c, h3⟩ := key h2
  obtain ⟨d, h4⟩ := key h3
  simp only [Option.some.injEq] at h4
  rw [← h4]; rfl
theorem thrL_len (n : Int) (xs : List Int) : (thrL n xs).length ≤ 1048576 := by
  unfold thrL
  split
  · cases h : thrF xs with
    | none => simp
    | some ys => have := thrL_4 h; simp; omega
  · simp

/-- the elements that are indifferent to both -/
def onS (xs : List Int) (a b : Nat) : Nat := freeN xs a &&& freeN xs b
def tri (a b c : Nat) : List Int := [(a : Int), (b : Int), (c : Int)]
def onC (xs : List Int) (a b : Nat) : Option (List Int) := findE (onS xs a b) (fun c => some (tri a b c))
def onA (xs : List Int) (a : Nat) : Option (List Int) := findE (nth xs a).toNat (onC xs a)
/-- the first two elements one above the other with one that is indifferent to both -/
def onF (xs : List Int) : Option (List Int) := find1 (onA xs) xs.length
def onL (n : Int) (xs : List Int) : List Int := if ordB n xs then (onF xs).getD [] else []
def onO (n : Int) (xs : List Int) : Bool := ordB n xs && (onF xs).isSome
theorem onS_lt {xs : List Int} (h10 : xs.length ≤ 10) (a b : Nat) : onS xs a b < 1024 := Nat.lt_of_le_of_lt Nat.and_le_left (freeN_lt h10 a)
theorem onC_zero {xs : List Int} {a b : Nat} (h : onS xs a b = 0) : onC xs a b = none := by
  rw [onC, h]
  exact findE_no (by omega) (fun d hd => by simp at hd)
theorem onL_3 {xs ys : List Int} (h : onF xs = some ys) : ys.length = 3 := by
  obtain ⟨a, _, h1, _⟩ := find1_ex h
  have key : ∀ {s : Nat} {f : Nat → Option (List Int)} {y : List Int}, findE s f = some y → ∃ x, f x = some y := by
    intro s f y h
    obtain ⟨x, hx, e⟩ := List.exists_of_findSome?_eq_some h
    exact ⟨x.toNat, e⟩
  obtain ⟨b, h2⟩ := key h1
  obtain ⟨c, h3⟩ := key h2
  simp only [Option.some.injEq] at h3
  rw [← h3]; rfl
theorem onL_len (n : Int) (xs : List Int) : (onL n xs).length ≤ 1048576 := by
  unfold onL
  split
  · cases h : onF xs with
    | none => simp
    | some ys => have := onL_3 h; simp; omega
  · simp
def NoOn (xs : List Int) (k l : Nat) : Prop := (∀ a, a < k → onA xs a = none) ∧ ∀ b : Nat, b < l → hasB (nth xs k) b = true → onC xs k b = none
theorem NoOn.c {xs : List Int} {k l : Nat} (h : NoOn xs k l) (h1 : hasB (nth xs k) l = true → onC xs k l = none) : NoOn xs k (l+1) :=
  ⟨h.1, fun b hb h2 => by
    by_cases e : b = l
    · subst e; exact h1 h2
    · exact h.2 b (by omega) h2⟩
theorem NoOn.a {n : Int} {xs : List Int} {k : Nat} (hp : RelP n xs) (hk : k < xs.length) (h : NoOn xs k xs.length) : NoOn xs (k+1) 0 :=
  ⟨fun a ha => by
    by_cases e : a = k
    · subst e
      rw [onA, find_has hp hk]
      refine find1_none (fun c hc => ?_)
      split
      · exact h.2 c hc (by assumption)
      · rfl
    · exact h.1 a (by omega), fun b hb => by omega⟩
theorem NoOn.no {xs : List Int} {l : Nat} (h : NoOn xs xs.length l) : onF xs = none := find1_none h.1
theorem NoOn.yes {n : Int} {xs : List Int} {k l : Nat} {ys : List Int} (hp : RelP n xs) (h : NoOn xs k l) (hk : k < xs.length) (hl : l < xs.length) (h1 : hasB (nth xs k) l = true) (h3 : onC xs k l = some ys) : onF xs = some ys := by
  refine find1_some hk ?_ h.1
  rw [onA, find_has hp hk]
  refine find1_some hl (by rw [if_pos h1, h3]) (fun b hb => ?_)
  split
  · exact h.2 b hb (by assumption)
  · rfl
/-- nothing has been found ahead of the place p of the list -/
def NoOs (xs : List Int) (k p : Nat) : Prop := (∀ a, a < k → onA xs a = none) ∧ ∀ i, i < p → onC xs k (nth (elems (nth xs k).toNat) i).toNat = none
theorem NoOs.b {xs : List Int} {k p l : Nat} (h : NoOs xs k p) (he : (nth (elems (nth xs k).toNat) p).toNat = l) (h1 : onC xs k l = none) : NoOs xs k (p+1) :=
  ⟨h.1, fun i hi => by
    by_cases e : i = p
    · subst e; rw [he]; exact h1
    · exact h.2 i (by omega)⟩
theorem NoOs.a {xs : List Int} {k : Nat} (h : NoOs xs k (elems (nth xs k).toNat).length) : NoOs xs (k+1) 0 :=
  ⟨fun a ha => by
    by_cases e : a = k
    · subst e; exact findE_nil h.2
    · exact h.1 a (by omega), fun i hi => by omega⟩
theorem NoOs.no {xs : List Int} {p : Nat} (h : NoOs xs xs.length p) : onF xs = none := find1_none h.1
theorem NoOs.yes {xs : List Int} {k p l : Nat} {ys : List Int} (h : NoOs xs k p) (hk : k < xs.length) (hp : p < (elems (nth xs k).toNat).length) (e1 : (nth (elems (nth xs k).toNat) p).toNat = l) (h3 : onC xs k l = some ys) : onF xs = some ys := by
  refine find1_some hk (findE_at hp ?_ h.2) h.1
  rw [e1]; exact h3

def belows (xs : List Int) (k : Nat) : List Int := fmap (fun i => ((belowTo xs i xs.length : Nat) : Int)) k
theorem belows_len (xs : List Int) (k : Nat) : (belows xs k).length = k := fmap_len _ _

/-- a list in order, as the library sorts it -/
def srt (xs : List Int) : List Int := xs.mergeSort fun x y => decide (x ≤ y)
theorem srt_len (xs : List Int) : (srt xs).length = xs.length := List.length_mergeSort xs
theorem srt_mem (xs : List Int) (x : Int) : x ∈ srt xs ↔ x ∈ xs := List.mem_mergeSort
theorem srt_le (xs : List Int) : (srt xs).Pairwise (· ≤ ·) := by
  have h := List.pairwise_mergeSort (le := fun (x y : Int) => decide (x ≤ y)) (fun a b c h1 h2 => by simp only [decide_eq_true_eq] at *; omega) (fun a b => by simp only [Bool.or_eq_true, decide_eq_true_eq]; omega) xs
  exact h.imp (fun h => by simpa using h)

/-- one step of the closing: what is above k goes to i, if k is above i -/
def clStep (xs : List Int) (k i : Nat) : List Int := if hasB (nth xs i) k then xs.set i (((nth xs i).toNat ||| (nth xs k).toNat : Nat) : Int) else xs
def clRow (xs : List Int) (k : Nat) : Nat → List Int
  | 0 => xs
  | i+1 => clStep (clRow xs k i) k i
def clAll (xs : List Int) : Nat → List Int
  | 0 => xs
  | k+1 => clRow (clAll xs k) k xs.length
theorem clStep_len (xs : List Int) (k i : Nat) : (clStep xs k i).length = xs.length := by
  unfold clStep; split <;> simp
theorem clRow_len (xs : List Int) (k : Nat) : ∀ i, (clRow xs k i).length = xs.length
  | 0 => rfl
  | i+1 => by rw [clRow, clStep_len, clRow_len xs k i]
theorem clAll_len (xs : List Int) : ∀ k, (clAll xs k).length = xs.length
  | 0 => rfl
  | k+1 => by rw [clAll, clRow_len, clAll_len xs k]
/-- all numbers of a list are sets below 1024 -/
def Small (xs : List Int) : Prop := ∀ k, k < xs.length → 0 ≤ nth xs k ∧ nth xs k < 1024
theorem nth_set {xs : List Int} {i j : Nat} {x : Int} (hi : i < xs.length) : nth (xs.set i x) j = if i = j then x else nth xs j := by
  simp only [nth, List.getD_eq_getElem?_getD, List.getElem?_set]
  by_cases h : i = j
  · subst h; simp [hi]
  · simp [h]
theorem clStep_small {xs : List Int} (h : Small xs) {k i : Nat} (hk : k < xs.length) (hi : i < xs.length) : Small (clStep xs k i) := by
  unfold clStep
  split
  · intro j hj
    rw [nth_set hi]
    have h1 := h i hi
    have h2 := h k hk
    split
    · have : (nth xs i).toNat ||| (nth xs k).toNat < 2 ^ 10 := or_lt (by omega) (by omega)
      omega
    · exact h j (by simpa using hj)
  · exact h
theorem clRow_small {xs : List Int} (h : Small xs) {k : Nat} (hk : k < xs.length) : ∀ i, i ≤ xs.length → Small (clRow xs k i)
  | 0, _ => h
  | i+1, hi => clStep_small (clRow_small h hk i (by omega)) (by rw [clRow_len]; exact hk) (by rw [clRow_len]; omega)
theorem clAll_small {xs : List Int} (h : Small xs) : ∀ k, k ≤ xs.length → Small (clAll xs k)
  | 0, _ => h
  | k+1, hk => clRow_small (clAll_small h k (by omega)) (by rw [clAll_len]; omega) _ (by rw [clAll_len]; omega)
theorem RelP.sm {n : Int} {xs : List Int} (h : RelP n xs) : Small xs := fun k hk => ⟨h.pos k hk, h.small k hk⟩
theorem set_ints (xs : List Int) (i : Nat) (x : Int) : (xs.map (Value.int .i64)).set i (.int .i64 x) = (xs.set i x).map (Value.int .i64) := by
  rw [List.map_set]
/-- a store into an owned row -/
theorem OwnI.put {w : World} {B g n cap : Nat} {xs : List Int} (h : OwnI w B (.slice (some ⟨g, 0, none⟩) n cap) xs) (hn : n = xs.length) (i : Nat) (x : Int) :
    OwnI (w.setCell ⟨g, i, none⟩ (.int .i64 x)) B (.slice (some ⟨g, 0, none⟩) n cap) (xs.set i x) ∧ w.grownBy (w.setCell ⟨g, i, none⟩ (.int .i64 x)) (some g) := by
  subst hn
  have hst := World.ownsRow.stored h i (.int .i64 x)
  rw [set_ints] at hst
  refine ⟨?_, hst.2⟩
  unfold OwnI
  rw [List.length_set]
  exact hst.1
theorem OwnI.at' {w : World} {B g n cap : Nat} {xs : List Int} (h : OwnI w B (.slice (some ⟨g, 0, none⟩) n cap) xs) (hn : n = xs.length) {i : Nat} (hi : i < xs.length) :
    w.cell? ⟨g, i, none⟩ = some (.int .i64 (nth xs i)) ∧ w.frozen? ⟨g, i, none⟩ = false := by
  subst hn
  refine ⟨?_, World.ownsRow.frozenAt h i⟩
  rw [World.ownsRow.cellAt h i (by omega)]
  simp [nth, hi]
theorem OwnI.head {w : World} {B n cap : Nat} {a : Option Addr} {xs : List Int} (h : OwnI w B (.slice a n cap) xs) (hp : 0 < xs.length) : ∃ g, a = some ⟨g, 0, none⟩ ∧ B ≤ g ∧ g < w.heap.size := by
  rcases h.2 with ⟨e, h0⟩ | ⟨g, c, cur, e, hb, hg, _⟩
  · omega
  · simp only [Value.slice.injEq] at e
    exact ⟨g, e.1, hb, (Array.getElem?_eq_some_iff.1 hg).1⟩
def cloN (n : Int) (xs : List Int) : Int := if relB n xs then n else 0
def cloL (n : Int) (xs : List Int) : List Int := if relB n xs then clAll xs xs.length else []
theorem cloL_len (n : Int) (xs : List Int) : (cloL n xs).length ≤ 1048576 := by
  unfold cloL
  split
  · rename_i h
    have hp := relB_p h
    have := hp.len
    have := hp.n1
    rw [clAll_len]
    omega
  · simp

/-- how many elements are below i -/
def cntB (xs : List Int) (i : Nat) : Int := ((elems (belowTo xs i xs.length)).length : Int)
def cntA (xs : List Int) (i : Nat) : Int := ((elems (nth xs i).toNat).length : Int)
def cnts (xs : List Int) (k : Nat) : List Int := fmap (cntB xs) k
theorem cnts_len (xs : List Int) (k : Nat) : (cnts xs k).length = k := fmap_len _ _
/-- does i stand ahead of j in the trace list? -/
def befT (xs : List Int) (i j : Nat) : Bool :=
  if cntB xs i ≠ cntB xs j then decide (cntB xs i < cntB xs j)
  else if cntA xs i ≠ cntA xs j then decide (cntA xs j < cntA xs i)
  else decide (i < j)
theorem befT_iff {xs : List Int} {i j : Nat} : befT xs i j = true ↔ cntB xs i < cntB xs j ∨ (cntB xs i = cntB xs j ∧ (cntA xs j < cntA xs i ∨ (cntA xs i = cntA xs j ∧ i < j))) := by
  unfold befT
  by_cases h1 : cntB xs i = cntB xs j
  · rw [if_neg (by omega)]
    by_cases h2 : cntA xs i = cntA xs j
    · rw [if_neg (by omega), decide_eq_true_eq]; omega
    · rw [if_pos h2, decide_eq_true_eq]; omega
  · rw [if_pos h1, decide_eq_true_eq]; omega
theorem befT_tr {xs : List Int} {a b c : Nat} (h1 : befT xs a b = true) (h2 : befT xs b c = true) : befT xs a c = true := by
  rw [befT_iff] at *
  omega
theorem befT_tot {xs : List Int} {a b : Nat} (h : a ≠ b) (h1 : befT xs a b = false) : befT xs b a = true := by
  rw [← Bool.not_eq_true, befT_iff] at h1
  rw [befT_iff]
  omega
theorem befT_le {xs : List Int} {a b : Nat} (h : befT xs a b = true) : cntB xs a ≤ cntB xs b := by
  rw [befT_iff] at h
  omega
/-- an element put where it belongs -/
def putT (xs : List Int) (out : List Nat) (i : Nat) : List Nat := out.takeWhile (fun a => befT xs a i) ++ i :: out.dropWhile (fun a => befT xs a i)
def trT (xs : List Int) : Nat → List Nat
  | 0 => []
  | k+1 => putT xs (trT xs k) k
theorem putT_perm (xs : List Int) (out : List Nat) (i : Nat) : (putT xs out i).Perm (i :: out) := by
  unfold putT
  have h := List.takeWhile_append_dropWhile (p := fun a => befT xs a i) (l := out)
  conv => rhs; rw [← h]
  exact List.perm_middle
theorem trT_perm (xs : List Int) : ∀ k, (trT xs k).Perm (List.range k)
  | 0 => by simp [trT]
  | k+1 => by
    rw [trT, List.range_succ]
    exact (putT_perm xs _ k).trans (((trT_perm xs k).cons k).trans (List.perm_append_singleton k _).symm)
theorem trT_len (xs : List Int) (k : Nat) : (trT xs k).length = k := by rw [(trT_perm xs k).length_eq, List.length_range]
theorem trT_lt {xs : List Int} {k a : Nat} (h : a ∈ trT xs k) : a < k := by rw [(trT_perm xs k).mem_iff] at h; simpa using h
theorem dw_all {α : Type} {p : α → Bool} {R : α → α → Prop} {x : α} : ∀ {l : List α}, l.Pairwise R → (∀ a b, p a = false → R a b → p b = false) → x ∈ l.dropWhile p → p x = false
  | [], _, _, h => by simp at h
  | a :: l, hl, hR, h => by
    rw [List.pairwise_cons] at hl
    rw [List.dropWhile_cons] at h
    cases hp : p a
    · rw [hp, if_neg (by simp)] at h
      rcases List.mem_cons.1 h with rfl | h
      · exact hp
      · exact hR a x hp (hl.1 x h)
    · rw [hp, if_pos rfl] at h
      exact dw_all hl.2 hR h
theorem putT_pw {xs : List Int} {out : List Nat} {i : Nat} (h : out.Pairwise (fun a b => befT xs a b = true)) (hi : ∀ a, a ∈ out → a ≠ i) : (putT xs out i).Pairwise (fun a b => befT xs a b = true) := by
  unfold putT
  have hd := List.takeWhile_append_dropWhile (p := fun a => befT xs a i) (l := out)
  have hta : ∀ a, a ∈ out.takeWhile (fun a => befT xs a i) → befT xs a i = true := fun a ha => by
    have := List.all_takeWhile (p := fun a => befT xs a i) (l := out)
    rw [List.all_eq_true] at this
    exact this a ha
  have hdw : ∀ a, a ∈ out.dropWhile (fun a => befT xs a i) → befT xs i a = true := fun a ha => by
    have h1 : befT xs a i = false := dw_all (p := fun a => befT xs a i) h (fun a b h1 h2 => by
      rw [← Bool.not_eq_true] at h1 ⊢
      exact fun h3 => h1 (befT_tr h2 h3)) ha
    exact befT_tot (hi a (by rw [← hd]; exact List.mem_append_right _ ha)) h1
  have hs := h
  rw [← hd, List.pairwise_append] at hs
  rw [List.pairwise_append, List.pairwise_cons]
  refine ⟨hs.1, ⟨hdw, hs.2.1⟩, fun a ha b hb => ?_⟩
  rcases List.mem_cons.1 hb with rfl | hb
  · exact hta a ha
  · exact hs.2.2 a ha b hb
theorem trT_pw (xs : List Int) : ∀ k, (trT xs k).Pairwise (fun a b => befT xs a b = true)
  | 0 => List.Pairwise.nil
  | k+1 => putT_pw (trT_pw xs k) (fun a ha => by have := trT_lt ha; omega)
theorem sorted_unique : ∀ {l m : List Int}, l.Pairwise (· ≤ ·) → m.Pairwise (· ≤ ·) → l.Perm m → l = m := fun h1 h2 h => h.eq_of_pairwise (fun a b _ _ h3 h4 => Int.le_antisymm h3 h4) h1 h2
/-- the numbers below, along the trace, are the sorted ones -/
theorem stair_eq (xs : List Int) : (trT xs xs.length).map (cntB xs) = srt (cnts xs xs.length) := by
  refine sorted_unique ?_ (srt_le _) ?_
  · rw [List.pairwise_map]
    exact (trT_pw xs _).imp (fun h => befT_le h)
  · refine ((trT_perm xs xs.length).map (cntB xs)).trans ?_
    exact (List.mergeSort_perm _ _).symm
theorem cnts_nth {xs : List Int} {k i : Nat} (h : i < k) : nth (cnts xs k) i = cntB xs i := fmap_nth _ h
/-- counts up to k, and sets from there on -/
def mixE (xs : List Int) (k i : Nat) : Int := if i < k then cntB xs i else ((belowTo xs (i : Int) xs.length : Nat) : Int)
def mixC (xs : List Int) (k : Nat) : List Int := fmap (mixE xs k) xs.length
theorem mixC_len (xs : List Int) (k : Nat) : (mixC xs k).length = xs.length := fmap_len _ _
theorem mixC_0 (xs : List Int) : mixC xs 0 = belows xs xs.length := rfl
theorem mixC_end (xs : List Int) : mixC xs xs.length = cnts xs xs.length := by
  apply List.ext_getElem (by rw [mixC_len, cnts_len])
  intro i h1 h2
  rw [mixC_len] at h1
  rw [← nth_get _ _ (by rw [mixC_len]; exact h1), ← nth_get _ _ (by rw [cnts_len]; exact h1), cnts_nth h1, show nth (mixC xs xs.length) i = _ from fmap_nth _ h1, mixE, if_pos h1]
theorem mixC_at {xs : List Int} {k : Nat} (h : k < xs.length) : nth (mixC xs k) k = ((belowTo xs (k : Int) xs.length : Nat) : Int) := by
  rw [show nth (mixC xs k) k = _ from fmap_nth _ h, mixE, if_neg (by omega)]
theorem mixC_set {xs : List Int} {k : Nat} (h : k < xs.length) : (mixC xs k).set k (cntB xs k) = mixC xs (k+1) := by
  apply List.ext_getElem (by rw [List.length_set, mixC_len, mixC_len])
  intro i h1 h2
  rw [mixC_len] at h2
  rw [List.getElem_set, ← nth_get (mixC xs (k+1)) _ (by rw [mixC_len]; exact h2), show nth (mixC xs (k+1)) i = _ from fmap_nth _ h2]
  by_cases hk : k = i
  · subst hk
    rw [if_pos rfl, mixE, if_pos (by omega)]
  · rw [if_neg hk, ← nth_get (mixC xs k) _ (by rw [mixC_len]; exact h2), show nth (mixC xs k) i = _ from fmap_nth _ h2, mixE, mixE]
    by_cases hi : i < k
    · rw [if_pos hi, if_pos (by omega)]
    · rw [if_neg hi, if_neg (by omega)]

/-- are two elements indifferent to each other? -/
def frB (xs : List Int) (a d : Nat) : Bool := (freeN xs a).testBit d
theorem frB_iff {n : Int} {xs : List Int} (hp : RelP n xs) {a d : Nat} (ha : a < xs.length) : frB xs a d = true ↔ d < xs.length ∧ hasB (nth xs a) d = false ∧ hasB (nth xs d) a = false ∧ d ≠ a := by
  unfold frB freeN
  have fb : ∀ n i : Nat, (2 ^ n - 1).testBit i = decide (i < n) := fun n i => Nat.testBit_two_pow_sub_one n i
  rw [testBit_sub, fb, Nat.testBit_or, Nat.testBit_or, belowTo_bit, testBit_two]
  simp only [Bool.and_eq_true, decide_eq_true_eq, Bool.not_eq_true', Bool.or_eq_false_iff, Bool.and_eq_false_iff, decide_eq_false_iff_not]
  constructor
  · rintro ⟨h1, ⟨h2, h3⟩, h4⟩
    refine ⟨h1, h2, ?_, fun e => h4 e.symm⟩
    rcases h3 with h3 | h3
    · exact absurd h1 h3
    · exact h3
  · rintro ⟨h1, h2, h3, h4⟩
    exact ⟨h1, ⟨h2, .inr h3⟩, fun e => h4 e.symm⟩

/-- strictly increasing -/
def Inc (l : List Int) : Prop := l.Pairwise (· < ·)
/-- how many numbers at the head are less than x -/
def putK : List Int → Int → Nat
  | [], _ => 0
  | y :: ys, x => if y < x then putK ys x + 1 else 0
theorem putK_le : ∀ (l : List Int) (x : Int), putK l x ≤ l.length
  | [], _ => Nat.le_refl _
  | y :: ys, x => by
    have := putK_le ys x
    simp only [putK]
    split <;> simp <;> omega
theorem putK_lt : ∀ (l : List Int) (x : Int) (j : Nat), j < putK l x → nth l j < x
  | [], _, j, h => by simp [putK] at h
  | y :: ys, x, j, h => by
    simp only [putK] at h
    split at h
    · rename_i hy
      cases j with
      | zero => simpa [nth] using hy
      | succ j => have := putK_lt ys x j (by omega); simpa [nth] using this
    · omega
theorem putK_ge : ∀ (l : List Int) (x : Int), putK l x < l.length → x ≤ nth l (putK l x)
  | [], _, h => by simp at h
  | y :: ys, x, h => by
    simp only [putK] at h ⊢
    split
    · rename_i hy
      rw [if_pos hy] at h
      have := putK_ge ys x (by simpa using h)
      simpa [nth] using this
    · rename_i hy
      simp [nth]; omega
/-- a list with a number put into it, unless it is there -/
def putL (l : List Int) (x : Int) : List Int := if putK l x < l.length ∧ nth l (putK l x) = x then l else l.take (putK l x) ++ [x] ++ l.drop (putK l x)
theorem putL_len (l : List Int) (x : Int) : (putL l x).length ≤ l.length + 1 := by
  have := putK_le l x
  unfold putL
  split
  · omega
  · simp; omega
theorem putL_mem (l : List Int) (x y : Int) : y ∈ putL l x ↔ y = x ∨ y ∈ l := by
  unfold putL
  split
  · rename_i h
    constructor
    · exact .inr
    · rintro (rfl | h1)
      · rw [← h.2, nth_get _ _ h.1]; exact List.getElem_mem _
      · exact h1
  · rw [List.mem_append, List.mem_append, List.mem_singleton]
    have e : y ∈ l ↔ y ∈ l.take (putK l x) ∨ y ∈ l.drop (putK l x) := by rw [← List.mem_append, List.take_append_drop]
    rw [e]
    constructor
    · rintro ((h | h) | h)
      · exact .inr (.inl h)
      · exact .inl h
      · exact .inr (.inr h)
    · rintro (h | h | h)
      · exact .inl (.inr h)
      · exact .inl (.inl h)
      · exact .inr h
theorem inc_nth {l : List Int} (h : Inc l) {i j : Nat} (hij : i < j) (hj : j < l.length) : nth l i < nth l j := by
  rw [nth_get _ _ (by omega), nth_get _ _ hj]
  exact (List.pairwise_iff_getElem.1 h) i j (by omega) hj hij
theorem putL_inc {l : List Int} (h : Inc l) (x : Int) : Inc (putL l x) := by
  unfold putL
  split
  · exact h
  · rename_i hn
    have hk := putK_le l x
    unfold Inc
    rw [List.append_assoc, List.pairwise_append]
    refine ⟨h.take, ?_, ?_⟩
    · rw [List.singleton_append, List.pairwise_cons]
      refine ⟨fun y hy => ?_, h.drop⟩
      obtain ⟨i, hi, rfl⟩ := List.getElem_of_mem hy
      rw [List.length_drop] at hi
      rw [List.getElem_drop]
      have h1 := putK_ge l x (by omega)
      have h2 : nth l (putK l x) ≠ x := fun e => hn ⟨by omega, e⟩
      have h3 : nth l (putK l x) ≤ nth l (putK l x + i) := by
        cases i with
        | zero => exact Int.le_refl _
        | succ i => exact Int.le_of_lt (inc_nth h (by omega) (by omega))
      rw [← nth_get _ _ (by omega)]
      omega
    · intro a ha b hb
      obtain ⟨i, hi, rfl⟩ := List.getElem_of_mem ha
      rw [List.length_take] at hi
      have h1 := putK_lt l x i (by omega)
      rw [List.getElem_take, ← nth_get _ _ (by omega)]
      rw [List.singleton_append, List.mem_cons] at hb
      rcases hb with rfl | hb
      · exact h1
      · obtain ⟨j, hj, rfl⟩ := List.getElem_of_mem hb
        rw [List.length_drop] at hj
        rw [List.getElem_drop, ← nth_get _ _ (by omega)]
        exact inc_nth h (by omega) (by omega)
/-- strictly increasing lists with the same numbers are the same -/
theorem inc_ext : ∀ {l m : List Int}, Inc l → Inc m → (∀ x, x ∈ l ↔ x ∈ m) → l = m
  | [], [], _, _, _ => rfl
  | [], y :: ys, _, _, h => by have := (h y).2 (by simp); simp at this
  | x :: xs, [], _, _, h => by have := (h x).1 (by simp); simp at this
  | x :: xs, y :: ys, h1, h2, h => by
    unfold Inc at h1 h2
    rw [List.pairwise_cons] at h1 h2
    have e : x = y := by
      have hx := (h x).1 (by simp)
      have hy := (h y).2 (by simp)
      rw [List.mem_cons] at hx hy
      rcases hx with hx | hx
      · exact hx
      · rcases hy with hy | hy
        · exact hy.symm
        · have a := h2.1 x hx
          have b := h1.1 y hy
          omega
    subst e
    congr 1
    refine inc_ext h1.2 h2.2 (fun z => ?_)
    constructor
    · intro hz
      have := (h z).1 (by simp [hz])
      rw [List.mem_cons] at this
      rcases this with rfl | h3
      · exact absurd (h1.1 z hz) (by omega)
      · exact h3
    · intro hz
      have := (h z).2 (by simp [hz])
      rw [List.mem_cons] at this
      rcases this with rfl | h3
      · exact absurd (h2.1 z hz) (by omega)
      · exact h3

/-- the different numbers among the first k, in order -/
def seenTo (xs : List Int) : Nat → List Int
  | 0 => []
  | k+1 => putL (seenTo xs k) (nth xs k)
theorem seenTo_len (xs : List Int) : ∀ k, (seenTo xs k).length ≤ k
  | 0 => by simp [seenTo]
  | k+1 => by
    have h1 := seenTo_len xs k
    have h2 := putL_len (seenTo xs k) (nth xs k)
    simp only [seenTo]
    omega
theorem seenTo_inc (xs : List Int) : ∀ k, Inc (seenTo xs k)
  | 0 => List.Pairwise.nil
  | k+1 => putL_inc (seenTo_inc xs k) _
theorem seenTo_mem (xs : List Int) (x : Int) : ∀ k, x ∈ seenTo xs k ↔ ∃ j, j < k ∧ nth xs j = x
  | 0 => by simp [seenTo]
  | k+1 => by
    rw [seenTo, putL_mem, seenTo_mem xs x k]
    constructor
    · rintro (h | ⟨j, h1, h2⟩)
      · exact ⟨k, by omega, h.symm⟩
      · exact ⟨j, by omega, h2⟩
    · rintro ⟨j, h1, h2⟩
      by_cases e : j = k
      · subst e; exact .inl h2.symm
      · exact .inr ⟨j, by omega, h2⟩
def lvbE (xs : List Int) (k : Nat) : Int := ((putK (seenTo xs xs.length) (nth xs k) : Nat) : Int)
/-- the levels of numbers -/
def lvbL (xs : List Int) : List Int := fmap (lvbE xs) xs.length
theorem lvbL_len (xs : List Int) : (lvbL xs).length = xs.length := fmap_len _ _
theorem putK_at : ∀ (l : List Int) (x : Int) (p : Nat), p ≤ l.length → (∀ i, i < p → nth l i < x) → (p < l.length → x ≤ nth l p) → putK l x = p
  | [], x, p, hp, _, _ => by simp at hp; simp [putK, hp]
  | y :: ys, x, 0, _, _, h3 => by
    have := h3 (by simp)
    simp only [nth, List.getD_cons_zero] at this
    simp only [putK]
    rw [if_neg (by omega)]
  | y :: ys, x, p+1, hp, h2, h3 => by
    have h0 := h2 0 (by omega)
    simp only [nth, List.getD_cons_zero] at h0
    simp only [putK, if_pos h0]
    rw [putK_at ys x p (by simpa using hp) (fun i hi => by have := h2 (i+1) (by omega); simpa [nth] using this) (fun h => by have := h3 (by simpa using h); simpa [nth] using this)]
theorem putK_mem {l : List Int} {x : Int} (hi : Inc l) (h : x ∈ l) : putK l x < l.length ∧ nth l (putK l x) = x := by
  obtain ⟨j, hj, e⟩ : ∃ j, j < l.length ∧ nth l j = x := by
    obtain ⟨j, hj, e⟩ := List.getElem_of_mem h
    exact ⟨j, hj, by rw [nth_get l j hj, e]⟩
  have hk : putK l x = j := by
    refine putK_at l x j (by omega) (fun i hij => ?_) (fun _ => by omega)
    rw [← e, nth_get _ _ (by omega), nth_get _ _ hj]
    exact (List.pairwise_iff_getElem.1 hi) i j (by omega) hj hij
  rw [hk]
  exact ⟨hj, e⟩

theorem el_mono {s t : Nat} : ∀ k, (∀ i, i < k → s.testBit i = true → t.testBit i = true) → (elemsTo s k).length ≤ (elemsTo t k).length
  | 0, _ => Nat.le_refl _
  | k+1, h => by
    have ih := el_mono k (fun i hi => h i (by omega))
    simp only [elemsTo]
    cases hs : s.testBit k
    · cases ht : t.testBit k
      · simpa using ih
      · simp; omega
    · rw [h k (by omega) hs]; simpa using ih
theorem el_lt {s t : Nat} : ∀ k, (∀ i, i < k → s.testBit i = true → t.testBit i = true) → (∃ i, i < k ∧ s.testBit i = false ∧ t.testBit i = true) → (elemsTo s k).length < (elemsTo t k).length
  | 0, _, ⟨i, hi, _⟩ => by omega
  | k+1, h, ⟨i, hi, h1, h2⟩ => by
    have hm := el_mono k (fun i hi => h i (by omega))
    simp only [elemsTo]
    by_cases e : i = k
    · subst e
      rw [h1, h2]; simp; omega
    · have ih := el_lt k (fun i hi => h i (by omega)) ⟨i, by omega, h1, h2⟩
      cases hs : s.testBit k
      · cases ht : t.testBit k
        · simpa using ih
        · simp; omega
      · rw [h k (by omega) hs]; simpa using ih
theorem ord_tr {n : Int} {xs : List Int} (h : ordB n xs = true) {a b c : Nat} (ha : a < xs.length) (h1 : hasB (nth xs a) b = true) (h2 : hasB (nth xs b) c = true) : hasB (nth xs a) c = true := by
  have hb : b < xs.length := has_lt (ord_rel h) ha h1
  have h3 := (okAtB_iff.1 ((ordB_iff.1 h).2 a ha)).2 b hb h1
  exact sub_zero.1 h3 _ h2
theorem ord_ir {n : Int} {xs : List Int} (h : ordB n xs = true) {a : Nat} (ha : a < xs.length) : hasB (nth xs a) a = false := (okAtB_iff.1 ((ordB_iff.1 h).2 a ha)).1
theorem below_bit (xs : List Int) (i k : Nat) : (belowTo xs i xs.length).testBit k = (decide (k < xs.length) && hasB (nth xs k) i) := belowTo_bit xs i k xs.length
theorem cnt_lt {n : Int} {xs : List Int} (h : ordB n xs = true) {i j : Nat} (hi : i < xs.length) (hj : j < xs.length) (hji : hasB (nth xs j) i = true) : cntB xs j < cntB xs i := by
  have h10 : xs.length ≤ 10 := by have := (ord_rel h).len; have := (ord_rel h).n1; omega
  have := el_lt (s := belowTo xs j xs.length) (t := belowTo xs i xs.length) 10 (fun k hk h1 => by
    rw [below_bit] at h1 ⊢
    simp only [Bool.and_eq_true, decide_eq_true_eq] at h1 ⊢
    exact ⟨h1.1, ord_tr h h1.1 h1.2 hji⟩) ⟨j, by omega, by rw [below_bit, ord_ir h hj]; simp, by rw [below_bit, hji]; simp [hj]⟩
  unfold cntB elems
  omega
theorem on_none {n : Int} {xs : List Int} (h : ordB n xs = true) (hw : onO n xs = false) {k i j : Nat} (hk : k < xs.length) (hi : i < xs.length) (h1 : hasB (nth xs k) i = true) (h2 : frB xs k j = true) (h3 : frB xs i j = true) : False := by
  have hp := ord_rel h
  have h10 : xs.length ≤ 10 := by have := hp.len; have := hp.n1; omega
  have hj : j < xs.length := ((frB_iff hp hk).1 h2).1
  have h0 : onF xs = none := by
    have : (onF xs).isSome = false := by simpa [onO, h] using hw
    simpa using this
  rw [onF, find1, List.findSome?_eq_none_iff] at h0
  have h4 := h0 k (by simpa using hk)
  rw [onA, find_has hp hk, find1, List.findSome?_eq_none_iff] at h4
  have h5 := h4 i (by simpa using hi)
  rw [if_pos h1, onC, findE_eq (n := 10) _ (onS_lt h10 k i) (by omega), find1, List.findSome?_eq_none_iff] at h5
  have h6 := h5 j (by simp; omega)
  rw [if_pos (by rw [onS, Nat.testBit_and]; unfold frB at h2 h3; rw [h2, h3]; rfl)] at h6
  cases h6
theorem cnt_weak {n : Int} {xs : List Int} (h : ordB n xs = true) (hw : onO n xs = false) {i j : Nat} (hi : i < xs.length) (hj : j < xs.length) (hc : cntB xs j < cntB xs i) : hasB (nth xs j) i = true := by
  have hp := ord_rel h
  cases hji : hasB (nth xs j) i
  · exfalso
    have hij : hasB (nth xs i) j = false := by
      cases hij : hasB (nth xs i) j
      · rfl
      · have := cnt_lt h hj hi hij; omega
    have hne : i ≠ j := fun e => by subst e; omega
    have hle := el_mono (s := belowTo xs i xs.length) (t := belowTo xs j xs.length) 10 (fun k hk h1 => by
      rw [below_bit] at h1 ⊢
      simp only [Bool.and_eq_true, decide_eq_true_eq] at h1 ⊢
      refine ⟨h1.1, ?_⟩
      cases hkj : hasB (nth xs k) j
      · exfalso
        have hkne : k ≠ j := fun e => by subst e; rw [hji] at h1; exact absurd h1.2 (by simp)
        have hjk : hasB (nth xs j) k = false := by
          cases hjk : hasB (nth xs j) k
          · rfl
          · rw [ord_tr h hj hjk h1.2] at hji; cases hji
        exact on_none h hw h1.1 hi h1.2 ((frB_iff hp h1.1).2 ⟨hj, hkj, hjk, fun e => hkne e.symm⟩) ((frB_iff hp hi).2 ⟨hj, hij, hji, fun e => hne e.symm⟩)
      · rfl)
    unfold cntB elems at hc
    omega
  · rfl
/-- the level of an element: how many different counts are less than its own -/
def wD (xs : List Int) (i : Nat) : Nat := putK (seenTo (cnts xs xs.length) (cnts xs xs.length).length) (cntB xs i)
theorem cnw_nth {xs : List Int} {i : Nat} (h : i < xs.length) : nth (cnts xs xs.length) i = cntB xs i := fmap_nth _ h
theorem cnt_seen {xs : List Int} {i : Nat} (h : i < xs.length) : cntB xs i ∈ seenTo (cnts xs xs.length) (cnts xs xs.length).length := by
  rw [seenTo_mem]
  exact ⟨i, by rw [cnts_len]; exact h, cnw_nth h⟩
theorem wD_at {xs : List Int} {i : Nat} (h : i < xs.length) : wD xs i < (seenTo (cnts xs xs.length) (cnts xs xs.length).length).length ∧ nth (seenTo (cnts xs xs.length) (cnts xs xs.length).length) (wD xs i) = cntB xs i :=
  putK_mem (seenTo_inc _ _) (cnt_seen h)
theorem wD_lt {n : Int} {xs : List Int} (h : ordB n xs = true) {i j : Nat} (hi : i < xs.length) (hj : j < xs.length) (hji : hasB (nth xs j) i = true) : wD xs j < wD xs i := by
  have h1 := cnt_lt h hi hj hji
  have ⟨a1, a2⟩ := wD_at hi
  have ⟨b1, b2⟩ := wD_at hj
  apply Nat.lt_of_not_le
  intro hle
  rcases Nat.lt_or_eq_of_le hle with hlt | he
  · have := inc_nth (seenTo_inc (cnts xs xs.length) _) hlt b1
    omega
  · rw [he, b2] at a2
    omega
theorem wD_pred {n : Int} {xs : List Int} (h : ordB n xs = true) (hw : onO n xs = false) {i : Nat} (hi : i < xs.length) (h0 : 0 < wD xs i) : ∃ j, j < xs.length ∧ hasB (nth xs j) i = true ∧ wD xs j + 1 = wD xs i := by
  have ⟨a1, a2⟩ := wD_at hi
  have hlt := inc_nth (seenTo_inc (cnts xs xs.length) (cnts xs xs.length).length) (i := wD xs i - 1) (j := wD xs i) (by omega) a1
  obtain ⟨j, hj, e⟩ := (seenTo_mem (cnts xs xs.length) (nth (seenTo (cnts xs xs.length) (cnts xs xs.length).length) (wD xs i - 1)) _).1 (by rw [nth_get _ _ (by omega)]; exact List.getElem_mem _)
  rw [cnts_len] at hj
  rw [cnw_nth hj] at e
  refine ⟨j, hj, cnt_weak h hw hi hj (by omega), ?_⟩
  have : wD xs j = wD xs i - 1 := by
    rw [wD, e]
    refine putK_at _ _ _ (by omega) (fun q hq => ?_) (fun _ => by omega)
    exact inc_nth (seenTo_inc (cnts xs xs.length) _) hq (by omega)
  omega
/-- the greatest level of the first p elements of a list, and one more -/
def hgTo (xs es : List Int) : Nat → Nat
  | 0 => 0
  | p+1 => max (hgTo xs es p) (1 + wD xs (nth es p).toNat)
theorem hgTo_le {xs es : List Int} {z : Nat} : ∀ {p : Nat}, (∀ q, q < p → wD xs (nth es q).toNat < z) → hgTo xs es p ≤ z
  | 0, _ => by simp [hgTo]
  | p+1, h => by
    have h1 := hgTo_le (z := z) (p := p) (fun q hq => h q (by omega))
    have h2 := h p (by omega)
    simp only [hgTo]; omega
theorem hgTo_ge {xs es : List Int} {q : Nat} : ∀ {p : Nat}, q < p → 1 + wD xs (nth es q).toNat ≤ hgTo xs es p
  | p+1, h => by
    simp only [hgTo]
    by_cases e : q = p
    · subst e; omega
    · have := hgTo_ge (xs := xs) (es := es) (q := q) (p := p) (by omega); omega
theorem below_el {n : Int} {xs : List Int} (h : ordB n xs = true) {i q : Nat} (hq : q < (elems (belowTo xs i xs.length)).length) : ∃ j : Nat, j < xs.length ∧ hasB (nth xs j) i = true ∧ nth (elems (belowTo xs i xs.length)) q = (j : Int) := by
  have h10 : xs.length ≤ 10 := by have := (ord_rel h).len; have := (ord_rel h).n1; omega
  have hm := nth_mem hq
  rw [mem_elems (belowTo_small xs i h10)] at hm
  obtain ⟨j, h1, h2⟩ := hm
  rw [below_bit] at h1
  simp only [Bool.and_eq_true, decide_eq_true_eq] at h1
  exact ⟨j, h1.1, h1.2, h2⟩
theorem hg_eq {n : Int} {xs : List Int} (h : ordB n xs = true) (hw : onO n xs = false) {i : Nat} (hi : i < xs.length) : hgTo xs (elems (belowTo xs i xs.length)) (elems (belowTo xs i xs.length)).length = wD xs i := by
  have h10 : xs.length ≤ 10 := by have := (ord_rel h).len; have := (ord_rel h).n1; omega
  apply Nat.le_antisymm
  · refine hgTo_le (fun q hq => ?_)
    obtain ⟨j, h1, h2, h3⟩ := below_el h hq
    rw [h3, Int.toNat_natCast]
    exact wD_lt h hi h1 h2
  · by_cases h0 : 0 < wD xs i
    · obtain ⟨j, h1, h2, h3⟩ := wD_pred h hw hi h0
      have hm : (j : Int) ∈ elems (belowTo xs i xs.length) := by
        rw [mem_elems (belowTo_small xs i h10)]
        exact ⟨j, by rw [below_bit, h2]; simp [h1], rfl⟩
      obtain ⟨q, hq, e⟩ := mem_nth hm
      have := hgTo_ge (xs := xs) (es := elems (belowTo xs i xs.length)) hq
      rw [e, Int.toNat_natCast] at this
      omega
    · omega
def wkL (n : Int) (xs : List Int) : List Int := if ordB n xs && !onO n xs then lvbL (cnts xs xs.length) else []
theorem wkL_len (n : Int) (xs : List Int) : (wkL n xs).length ≤ 1048576 := by
  unfold wkL
  split
  · rename_i h
    simp only [Bool.and_eq_true] at h
    have := (ord_rel h.1).len; have := (ord_rel h.1).n1
    rw [lvbL_len, cnts_len]; omega
  · simp
theorem wk_lvb {xs : List Int} : lvbL (cnts xs xs.length) = fmap (fun i => ((wD xs i : Nat) : Int)) xs.length := by
  unfold lvbL
  rw [cnts_len]
  unfold fmap
  apply List.map_congr_left
  intro i hi
  have hi := List.mem_range.1 hi
  show lvbE _ _ = _
  rw [lvbE, cnw_nth hi]
  rfl
theorem wD_small {n : Int} {xs : List Int} (h : ordB n xs = true) (i : Nat) : wD xs i ≤ 10 := by
  have := (ord_rel h).len
  have := (ord_rel h).n1
  have h1 := putK_le (seenTo (cnts xs xs.length) (cnts xs xs.length).length) (cntB xs i)
  have h2 := seenTo_len (cnts xs xs.length) (cnts xs xs.length).length
  rw [cnts_len] at h2
  unfold wD
  rw [cnts_len] at h1 ⊢
  omega

theorem orHas_any (s i : Int) (w : World) (h0 : 0 ≤ s) (h1 : s ≤ 9223372036854775807) (hi : 0 ≤ i) :
    Calls Tryd.prog 71 #[.int .i64 s, .int .i64 i] w fun e w' => e = .returned (.bool (hasB s i)) ∧ w = w' := by
  have H := Lib.hid (has_mod h0 h1 hi)
  go_enter Tryd.func71, Tryd.ntmps71
  go_wp2
  go_ret
  exact ⟨ret_bool H.out, rfl⟩

theorem orBelow_any (n : Int) (a : Option Addr) (xs : List Int) (cap : Nat) (i : Int) (w : World) (hx : Rd w a xs) (hr : RelP n xs) (hi : 0 ≤ i) :
    Calls Tryd.prog 67 #[.agg #[.int .i64 n, .slice a xs.length cap], .int .i64 i] w fun e w' => e = .returned (.int .i64 (belowTo xs i xs.length)) ∧ Below w.heap.size w w' := by
  have hx1 := hx.alloc (.cells #[.int .i64 n, .slice a xs.length cap] 28)
  have hn : xs.length ≤ 10 := by have := hr.len; have := hr.n1; omega
  go_enter Tryd.func67, Tryd.ntmps67
  go_wp2_with fail
  go_loop [5, 11] (fun s i' => ∃ k : Nat, k ≤ xs.length ∧ i' = .int .i64 k ∧ s = .int .i64 (belowTo xs i k)) (fun _ i => xs.length - (intOf i).toNat)
  case atStart => exact ⟨0, Nat.zero_le _, rfl, rfl⟩
  case round =>
    obtain ⟨k, hk, rfl, rfl⟩ := hrel
    by_cases hlt : k < xs.length
    · obtain ⟨b, off, rfl, hbl, hc⟩ := hx1.cell k hlt
      obtain ⟨b', off', e', hbl', hc'⟩ := hx.cell k hlt
      simp only [Option.some.injEq, Addr.mk.injEq, and_true] at e'
      obtain ⟨rfl, rfl⟩ := e'
      have hpk := hr.pos k hlt
      have hsk : nth xs k ≤ 9223372036854775807 := by have := hr.small k hlt; omega
      have hbs := belowTo_small xs i (k := k) (by omega)
      have hor := Lib.hid (or_bit (b := belowTo xs i k) (k := k) (by omega) (by omega))
      clear hbs
      cases hin : hasB (nth xs k) i
      · go_wp2_with (go_at_call 71; refine (orHas_any _ _ _ hpk hsk hi).mono ?_; rintro e w' ⟨rfl, rfl⟩)
        go_round
        case rel => exact ⟨k + 1, by omega, by go_num, by simp [belowTo, hin]⟩
        case measure => simp [intOf]; omega
      · go_wp2_with (go_at_call 71; refine (orHas_any _ _ _ hpk hsk hi).mono ?_; rintro e w' ⟨rfl, rfl⟩)
        go_round
        case rel => exact ⟨k + 1, by omega, by go_num, val_int (by rw [hor.out]; simp [belowTo, hin])⟩
        case measure => simp [intOf]; omega
    · obtain rfl : k = xs.length := by omega
      go_wp2_with fail
      go_ret
      exact ⟨rfl, (by repeat (first | exact Below.refl _ _ | assumption | refine Below.alloc ?_ (by first | exact Nat.le_refl _ | (simp only [World.size_alloc, World.size_setCell, World.size_drew]; omega) | omega) _ | refine Below.setCell ?_ (by first | exact Nat.le_refl _ | (simp only [World.size_alloc, World.size_setCell, World.size_drew]; omega) | omega) _ | refine Below.drew ?_))⟩

theorem orList_any (s : Int) (w : World) (h0 : 0 ≤ s) (h1 : s < 1024) :
    Calls Tryd.prog 40 #[.int .i64 s] w fun e w' => ∃ a cap, e = .returned (.slice a (elems s.toNat).length cap) ∧ OwnI w' w.heap.size (.slice a (elems s.toNat).length cap) (elems s.toNat) ∧ Below w.heap.size w w' := by
  obtain ⟨S, rfl⟩ := Int.eq_ofNat_of_zero_le h0
  have hS : S < 1024 := by omega
  obtain ⟨i0, hi, hz0, hz1, hz2⟩ := info_parts infoInt
  have hsh : ∀ k : Nat, (S : Int) / 2 ^ min k 64 = ((S >>> k : Nat) : Int) := fun k => shr_nat S k (by omega)
  have HSH := Lib.hid hsh
  clear hsh
  go_enter Tryd.func40, Tryd.ntmps40
  go_wp2_with fail
  go_loopw [3, 4] (fun v i wr => ∃ k : Nat, k ≤ 10 ∧ i = .int .i64 k ∧ wr.ownsRow w.heap.size 3 1 v (elemsTo S k).length ((elemsTo S k).map (Value.int .i64)) ∧ Below w.heap.size w wr) (fun _ i _ => 10 - (intOf i).toNat)
  case atStart => exact ⟨0, by omega, rfl, by simpa [elemsTo] using World.ownsRow_nil _ _ _ _, Below.refl _ _⟩
  case round =>
    obtain ⟨k, hk, rfl, hown, hb⟩ := hrel
    have hln := elemsTo_len S k
    have hsz := hb.size
    have hq := HSH.out k
    rw [show min k 64 = k from by omega] at hq
    by_cases hz : S >>> k = 0
    · have ht : ¬ (0 : Int) < (S : Int) / 2 ^ k := by rw [hq, hz]; omega
      have HZ := Lib.hid hz
      clear hq hz
      go_wp2_with fail
      go_ret
      have e := elems_at HZ.out hk
      rw [e] at hown
      obtain ⟨a, cap, rfl⟩ := OwnI.form hown
      exact ⟨a, cap, rfl, hown, hb⟩
    · have ht : (0 : Int) < (S : Int) / 2 ^ k := by rw [hq]; exact Int.natCast_pos.2 (Nat.pos_of_ne_zero hz)
      have hk9 : k < 10 := by
        rcases Nat.lt_or_ge k 10 with h | h
        · exact h
        · obtain rfl : k = 10 := by omega
          exact absurd (by rw [Nat.shiftRight_eq_div_pow]; exact Nat.div_eq_of_lt (by omega)) hz
      clear hq hz
      have hhas : hasB (S : Int) (k : Int) = S.testBit k := rfl
      cases hin : S.testBit k
      · rw [hin] at hhas
        go_wp2_with (go_at_call 71; refine (orHas_any _ _ _ (by omega) (by omega) (by omega)).mono ?_; rintro e w' ⟨rfl, rfl⟩)
        go_roundw
        case rel => exact ⟨k + 1, by omega, by go_num, by simpa [elemsTo, hin] using hown, hb⟩
        case measure => simp [intOf]; omega
      · rw [hin] at hhas
        go_wp2_with (first | (go_at_call 71; refine (orHas_any _ _ _ (by omega) (by omega) (by omega)).mono ?_; rintro e w' ⟨rfl, rfl⟩) | (at_builtin; refine wpList_append_own _ rfl _ _ 22 rfl w.heap.size 3 i0 (.int .i64 0) 1 8 Tryd.underlying22 hi hz0 hz1 hz2 rfl (by decide) _ _ _ rfl (hown.alloc _) ⟨wr.heap.size, 0, none⟩ 1 1 [.int .i64 k] rfl rfl ?c1 ?c2 ?c3 ?c4 ?c5 ?_))
        case c1 =>
          intro j u hj
          match j, hj with
          | 0, hj => simp at hj; subst hj; simp [Addr.add]
        case c2 => intro u hu; simp at hu; subst hu; rfl
        case c3 => unfold maxLen; omega
        case c4 => omega
        case c5 => simp; omega
        · intro v' w1 hown' hgrow _
          have hlt := World.ownsRow.lt hown
          have hb1 : Below w.heap.size w w1 := (hb.alloc hsz _).grown hgrow (by simp; omega) (fun b e => (hlt b e).1)
          have HO := Lib.hid hown'
          clear hown' hgrow hown
          go_wp2_with fail
          go_roundw
          case rel => exact ⟨k + 1, by omega, by go_num, by simpa [elemsTo, hin] using HO.out, hb1⟩
          case measure => simp [intOf]; omega

def maxI (a b : Int) : Int := if b < a then a else b
theorem l1Most_any (a b : Int) (w : World) : Calls Tryd.prog 88 #[.int .i64 a, .int .i64 b] w fun e w' => e = .returned (.int .i64 (maxI a b)) ∧ w = w' := by
  by_cases h : b < a
  · have H : Hid (maxI a b = a) := by rw [Hid, maxI, if_pos h]
    go_enter Tryd.func88, Tryd.ntmps88
    go_wp2
    go_ret
    exact ⟨ret_int H.out.symm, rfl⟩
  · have H : Hid (maxI a b = b) := by rw [Hid, maxI, if_neg h]
    go_enter Tryd.func88, Tryd.ntmps88
    go_wp2
    go_ret
    exact ⟨ret_int H.out.symm, rfl⟩

theorem maxI_max2 (a b : Int) : maxI a b = max a b := by unfold maxI; split <;> omega
set_option maxRecDepth 100000 in
theorem weHeight_any (n : Int) (a : Option Addr) (xs : List Int) (cap : Nat) (h : ordB n xs = true) (hw : onO n xs = false) : ∀ (z i : Nat) (w : World), wD xs i < z → Rd w a xs → i < xs.length →
    Calls Tryd.prog 64 #[.agg #[.int .i64 n, .slice a xs.length cap], .int .i64 (i : Int)] w fun e w' => e = .returned (.int .i64 ((wD xs i : Nat) : Int)) ∧ Below w.heap.size w w'
  | 0, i, w, hz, _, _ => by omega
  | z+1, i, w, hz, hx, hi => by
    have HIH : Hid (∀ (j : Nat) (w : World), wD xs j < z → Rd w a xs → j < xs.length → Calls Tryd.prog 64 #[.agg #[.int .i64 n, .slice a xs.length cap], .int .i64 (j : Int)] w fun e w' => e = .returned (.int .i64 ((wD xs j : Nat) : Int)) ∧ Below w.heap.size w w') :=
      fun j w h1 h2 h3 => weHeight_any n a xs cap h hw z j w h1 h2 h3
    have hp := ord_rel h
    have h10 : xs.length ≤ 10 := by have := hp.len; have := hp.n1; omega
    have HEQ := Lib.hid (hg_eq h hw hi)
    have HSM : Hid (∀ i, wD xs i ≤ 10) := fun i => wD_small h i
    have HEL : Hid (∀ q, q < (elems (belowTo xs i xs.length)).length → ∃ j : Nat, j < xs.length ∧ hasB (nth xs j) i = true ∧ nth (elems (belowTo xs i xs.length)) q = (j : Int)) := fun q hq => below_el h hq
    have HLT : Hid (∀ j : Nat, j < xs.length → hasB (nth xs j) i = true → wD xs j < z) := fun j h1 h2 => by have := wD_lt h hi h1 h2; omega
    have hsb := belowTo_small xs i h10
    have hx1 := hx.alloc (.cells #[.int .i64 n, .slice a xs.length cap] 28)
    obtain ⟨S, hS⟩ : ∃ S, S = belowTo xs i xs.length := ⟨_, rfl⟩
    have HBEL := Lib.hid (fun w hx => orBelow_any n a xs cap (i : Int) w hx hp (by omega))
    rw [← hS] at hsb HEQ HEL HBEL
    have HEQ' := HEQ
    obtain ⟨es, hes⟩ : ∃ es, es = elems S := ⟨_, rfl⟩
    have hesl : es.length ≤ 10 := by rw [hes]; exact elems_len _
    rw [← hes] at HEQ HEL
    have HES : Hid (elems ((S : Int).toNat) = es) := by rw [Hid, hes]; rfl
    have S0 : (0 : Int) ≤ (S : Int) := by omega
    have S1 : (S : Int) < 1024 := by omega
    clear hS hes HEQ'
    go_enter Tryd.func64, Tryd.ntmps64
    go_wp2_with fail
    refine (HBEL.out _ hx1).mono ?_
    rintro e w1 ⟨rfl, hb1⟩
    have A1 : Box2 w1 w.heap.size (.int .i64 n) (.slice a xs.length cap) := (Box2.new w _ _ _).below hb1
    have bw1 : Below w.heap.size w w1 := Below.trans (by repeat (first | exact Below.refl _ _ | assumption | refine Below.alloc ?_ (by first | exact Nat.le_refl _ | (simp only [World.size_alloc, World.size_setCell, World.size_drew]; omega) | omega) _ | refine Below.setCell ?_ (by first | exact Nat.le_refl _ | (simp only [World.size_alloc, World.size_setCell, World.size_drew]; omega) | omega) _ | refine Below.drew ?_)) (hb1.mono (by first | (simp only [World.size_alloc, World.size_setCell, World.size_drew]; omega) | omega))
    clear hb1 hx1
    go_wp2_with fail
    refine (orList_any _ _ S0 S1).mono ?_
    rw [HES.out]
    rintro e w2 ⟨a2, c2, rfl, ho2, hb2⟩
    have bw2 := bw1.trans (hb2.mono bw1.size)
    have A2 := A1.below hb2
    have hr2 := ho2.rd
    clear ho2 hb2 A1 bw1
    go_wp2_with fail
    go_loopw [5, 13] (fun s i' wr => ∃ p : Nat, p ≤ es.length ∧ i' = .int .i64 p ∧ s = .int .i64 ((hgTo xs es p : Nat) : Int) ∧ Below w2.heap.size w2 wr) (fun _ i' _ => es.length - (intOf i').toNat)
    case atStart => exact ⟨0, Nat.zero_le _, rfl, rfl, Below.refl _ _⟩
    case round =>
      obtain ⟨p, hpl, rfl, rfl, hb⟩ := hrel
      have bwr := bw2.trans (hb.mono bw2.size)
      have B := A2.below hb
      have ⟨zB, cB, dB⟩ := B
      by_cases hlt2 : p < es.length
      · obtain ⟨j, hj1, hj2, hj3⟩ := HEL.out p hlt2
        obtain ⟨b3, off3, rfl, hbl3, hc3⟩ := (hr2.below hb).cell p hlt2
        rw [hj3] at hc3
        have hjz := HLT.out j hj1 hj2
        have hsm := HSM.out j
        have HN : Hid (hgTo xs es (p+1) = max (hgTo xs es p) (1 + wD xs j)) := by rw [Hid, hgTo, hj3]; rfl
        have p1 : (p : Int) < (es.length : Int) := by omega
        clear hj3
        go_wp2_with fail
        refine (HIH.out j _ hjz (hx.below bwr) hj1).mono ?_
        rintro e w4 ⟨rfl, hb4⟩
        go_wp2_with fail
        refine (l1Most_any _ _ _).mono ?_
        rintro e w' ⟨rfl, rfl⟩
        go_wp2_with fail
        go_roundw
        case rel => exact ⟨p + 1, by omega, by go_num, val_int (by rw [HN.out, maxI_max2]; omega), hb.trans (hb4.mono hb.size)⟩
        case measure => simp [intOf]; omega
      · obtain rfl : p = es.length := by omega
        go_wp2_with fail
        go_ret
        exact ⟨ret_int (by rw [HEQ.out]), bwr⟩

theorem l1In_any (n lo hi : Int) (w : World) :
    Calls Tryd.prog 86 #[.int .i64 n, .int .i64 lo, .int .i64 hi] w fun e w' => e = .returned (.bool (inB n lo hi)) ∧ w = w' := by
  go_enter Tryd.func86, Tryd.ntmps86
  go_wp2
  all_goals (go_ret; exact ⟨ret_bool (by simp [inB]; try omega), rfl⟩)
theorem l1In_is {n lo hi : Int} {b : Bool} (h : inB n lo hi = b) (w : World) (m : Nat) :
    Calls Tryd.prog 86 #[.int .i64 n, .int .i64 lo, .int .i64 hi] (w.drewN m) fun e w' => e = .returned (.bool b) ∧ ∃ k, w' = w.drewN k :=
  Calls.quiet_of_same ((l1In_any n lo hi (w.drewN m)).mono (fun e w' hh => ⟨by rw [← h]; exact hh.1, hh.2.symm⟩))

theorem l1All_any (a : Option Addr) (xs : List Int) (cap : Nat) (lo hi : Int) (w : World) (hx : Rd w a xs) :
    Calls Tryd.prog 96 #[.slice a xs.length cap, .int .i64 lo, .int .i64 hi] w fun e w' => e = .returned (.bool (allB xs lo hi)) ∧ w = w' := by
  have hlen := hx.len
  go_enter Tryd.func96, Tryd.ntmps96
  go_wp2_with fail
  go_loop [11] (fun i => ∃ k : Nat, k ≤ xs.length ∧ i = .int .i64 k ∧ allB (xs.take k) lo hi = true) (fun i => xs.length - (intOf i).toNat)
  case atStart => exact ⟨0, Nat.zero_le _, rfl, rfl⟩
  case round =>
    obtain ⟨k, hk, rfl, hall⟩ := hrel
    by_cases hlt : k < xs.length
    · obtain ⟨b, off, rfl, hbl, hc⟩ := hx.cell k hlt
      cases hin : inB (nth xs k) lo hi
      · have hf := Lib.hid (allB_false hlt hin)
        go_wp2_with (go_at_call 86; refine (l1In_any _ _ _ _).mono ?_; rintro e w' ⟨rfl, rfl⟩)
        go_ret
        exact ⟨ret_bool hf.out.symm, rfl⟩
      · go_wp2_with (go_at_call 86; refine (l1In_any _ _ _ _).mono ?_; rintro e w' ⟨rfl, rfl⟩)
        go_round
        case rel => exact ⟨k + 1, by omega, by go_num, by rw [allB_take _ _ _ _ hlt, hall, hin]; rfl⟩
        case measure => simp [intOf]; omega
    · go_wp2_with fail
      go_ret
      exact ⟨ret_bool (by rw [← hall, List.take_of_length_le (by omega)]), rfl⟩
theorem l1All_is {a : Option Addr} {xs : List Int} {cap : Nat} {lo hi : Int} {b : Bool} {w : World} (hx : Rd w a xs) (h : allB xs lo hi = b) (m : Nat) :
    Calls Tryd.prog 96 #[.slice a xs.length cap, .int .i64 lo, .int .i64 hi] (w.drewN m) fun e w' => e = .returned (.bool b) ∧ ∃ k, w' = w.drewN k :=
  Calls.quiet_of_same ((l1All_any a xs cap lo hi (w.drewN m) (hx.below (Joins.below_draws _ _ _))).mono (fun e w' hh => ⟨by rw [← h]; exact hh.1, hh.2.symm⟩))

theorem orRelation_any (n : Int) (a : Option Addr) (xs : List Int) (cap : Nat) (w : World) (hx : Rd w a xs) :
    Calls Tryd.prog 70 #[.agg #[.int .i64 n, .slice a xs.length cap]] w fun e w' => e = .returned (.bool (relB n xs)) ∧ Below w.heap.size w w' := by
  have hx1 := hx.alloc (.cells #[.int .i64 n, .slice a xs.length cap] 28)
  cases h1 : inB n 0 10
  · have HR : Hid (relB n xs = false) := by simp [Hid, relB, h1]
    go_enter Tryd.func70, Tryd.ntmps70
    go_wp2_with fail
    go_quiet ((go_at_call 86; exact l1In_is h1 _ _))
    go_wp2_with fail
    go_ret
    exact ⟨ret_bool HR.out.symm, (Below.refl _ _).alloc (Nat.le_refl _) _ |>.trans (Joins.below_draws _ _ _)⟩
  · have hn := inB_iff.1 h1
    cases h2 : ((xs.length : Int) == n)
    · have HR : Hid (relB n xs = false) := by
        have : ¬ (xs.length : Int) = n := by simpa using h2
        simp [Hid, relB, h1, this]
      go_enter Tryd.func70, Tryd.ntmps70
      go_wp2_with fail
      go_quiet ((go_at_call 86; exact l1In_is h1 _ _))
      go_wp2_with fail
      go_ret
      exact ⟨ret_bool HR.out.symm, (Below.refl _ _).alloc (Nat.le_refl _) _ |>.trans (Joins.below_draws _ _ _)⟩
    · cases h3 : allB xs 0 (wrap64 (wrap64 (2 ^ n.toNat) - 1))
      all_goals
        have HR : Hid (relB n xs = allB xs 0 (wrap64 (wrap64 (2 ^ n.toNat) - 1))) := by
          have : (xs.length : Int) = n := by simpa using h2
          simp only [Hid, relB, h1, this, full_eq hn.1 hn.2]
          simp
        have H3 := Lib.hid h3
        clear h3
        go_enter Tryd.func70, Tryd.ntmps70
        go_wp2_with fail
        go_quiet ((first | (go_at_call 86; exact l1In_is h1 _ _) | (go_at_call 96; exact l1All_is hx1 H3.out _)))
        go_wp2_with fail
        go_ret
        exact ⟨ret_bool (by rw [HR.out, H3.out]), (Below.refl _ _).alloc (Nat.le_refl _) _ |>.trans (Joins.below_draws _ _ _)⟩

theorem elem_at {n : Int} {xs : List Int} (hp : RelP n xs) {k : Nat} (hk : k < xs.length) {m : Nat} (hm : m < (elems (nth xs k).toNat).length) :
    ∃ i : Nat, i < xs.length ∧ hasB (nth xs k) i = true ∧ nth (elems (nth xs k).toNat) m = (i : Int) := by
  have h1 := hp.small k hk
  have h0 := hp.pos k hk
  obtain ⟨i, hb, e⟩ := (mem_elems (by omega)).1 (nth_mem hm)
  exact ⟨i, has_lt hp hk hb, hb, e⟩
theorem at_elem {n : Int} {xs : List Int} (hp : RelP n xs) {k : Nat} (hk : k < xs.length) {j : Nat} (h : hasB (nth xs k) j = true) :
    ∃ m, m < (elems (nth xs k).toNat).length ∧ nth (elems (nth xs k).toNat) m = (j : Int) := by
  have h1 := hp.small k hk
  have h0 := hp.pos k hk
  have : (j : Int) ∈ elems (nth xs k).toNat := (mem_elems (by omega)).2 ⟨j, h, rfl⟩
  obtain ⟨m, hm, e⟩ := mem_nth this
  exact ⟨m, hm, e⟩
theorem orGood_any (n : Int) (a : Option Addr) (xs : List Int) (cap : Nat) (w : World) (hx : Rd w a xs) :
    Calls Tryd.prog 39 #[.agg #[.int .i64 n, .slice a xs.length cap]] w fun e w' => e = .returned (.bool (ordB n xs)) ∧ Below w.heap.size w w' := by
  have hx1 := hx.alloc (.cells #[.int .i64 n, .slice a xs.length cap] 28)
  have hlen := hx.len
  cases hr : relB n xs
  · have HR : Hid (ordB n xs = false) := by simp [Hid, ordB, hr]
    go_enter Tryd.func39, Tryd.ntmps39
    go_wp2_with fail
    refine (orRelation_any _ _ _ _ _ hx1).mono ?_
    rintro e w1 ⟨rfl, hb1⟩
    go_wp2_with fail
    go_ret
    exact ⟨ret_bool HR.out.symm, Below.trans (by repeat (first | exact Below.refl _ _ | assumption | refine Below.alloc ?_ (by first | exact Nat.le_refl _ | (simp only [World.size_alloc, World.size_setCell, World.size_drew]; omega) | omega) _ | refine Below.setCell ?_ (by first | exact Nat.le_refl _ | (simp only [World.size_alloc, World.size_setCell, World.size_drew]; omega) | omega) _ | refine Below.drew ?_)) (hb1.mono (by first | (simp only [World.size_alloc, World.size_setCell, World.size_drew]; omega) | omega))⟩
  · have hp := relB_p hr
    go_enter Tryd.func39, Tryd.ntmps39
    go_wp2_with fail
    refine (orRelation_any _ _ _ _ _ hx1).mono ?_
    rintro e w1 ⟨rfl, hb1⟩
    have B1 := (Box2.new w _ _ _).below hb1
    have ⟨z1, c1, d1⟩ := B1
    have bw1 : Below w.heap.size w w1 := Below.trans (by repeat (first | exact Below.refl _ _ | assumption | refine Below.alloc ?_ (by first | exact Nat.le_refl _ | (simp only [World.size_alloc, World.size_setCell, World.size_drew]; omega) | omega) _ | refine Below.setCell ?_ (by first | exact Nat.le_refl _ | (simp only [World.size_alloc, World.size_setCell, World.size_drew]; omega) | omega) _ | refine Below.drew ?_)) (hb1.mono (by first | (simp only [World.size_alloc, World.size_setCell, World.size_drew]; omega) | omega))
    have HR := Lib.hid hr
    clear hb1
    go_wp2_with fail
    clear hr
    go_loopw [13] (fun i wr => ∃ k : Nat, k ≤ xs.length ∧ i = .int .i64 k ∧ (∀ j, j < k → okAtB xs j = true) ∧ Below w1.heap.size w1 wr) (fun i _ => xs.length - (intOf i).toNat)
    case atStart => exact ⟨0, Nat.zero_le _, rfl, fun j hj => by omega, Below.refl _ _⟩
    case round =>
      obtain ⟨k, hk, rfl, hall, hb⟩ := hrel
      have Br := B1.below hb
      have ⟨zr, cr, dr⟩ := Br
      have bwr := bw1.trans (hb.mono bw1.size)
      have HA := Lib.hid hall
      clear hall c1 d1
      by_cases hlt : k < xs.length
      · obtain ⟨b, off, rfl, hbl, hc⟩ := (hx.below bwr).cell k hlt
        have hpk := hp.pos k hlt
        have hsk := hp.small k hlt
        have hsk' : nth xs k ≤ 9223372036854775807 := by omega
        cases hin : hasB (nth xs k) k
        · go_wp2_with fail
          refine (orHas_any _ _ _ hpk hsk' (by omega)).mono ?_
          rintro e w' ⟨rfl, rfl⟩
          go_wp2_with fail
          refine (orList_any _ _ hpk hsk).mono ?_
          rintro e w2 ⟨a2, cap2, rfl, ho2, hb2⟩
          have ⟨z2, c2, d2⟩ := Br.below hb2
          have bw2 := bwr.trans (hb2.mono bwr.size)
          have hx2 := hx.below bw2
          have hr2 := ho2.rd
          have bk2 := hb.trans (hb2.mono hb.size)
          have hel := elems_len (nth xs k).toNat
          have HI := Lib.hid hin
          clear hin cr dr hc
          obtain ⟨es, hes⟩ : ∃ es, es = elems (nth xs k).toNat := ⟨_, rfl⟩
          rw [← hes] at ho2 hr2 hel
          have HES := Lib.hid hes
          rw [← hes]
          clear hes ho2 hb2
          go_wp2_with fail
          go_loop [24] (fun i => ∃ j : Nat, j ≤ es.length ∧ i = .int .i64 j ∧ (∀ m, m < j → sub (nth xs (nth es m).toNat).toNat (nth xs k).toNat = 0)) (fun i => es.length - (intOf i).toNat)
          case atStart => exact ⟨0, Nat.zero_le _, rfl, fun m hm => by omega⟩
          case round =>
            obtain ⟨j, hj, rfl, hin2⟩ := hrel
            have HIN := Lib.hid hin2
            clear hin2
            by_cases hjl : j < es.length
            · obtain ⟨b2, off2, rfl, hbl2, hc2⟩ := hr2.cell j hjl
              obtain ⟨i, hil, hib, hie⟩ : ∃ i : Nat, i < xs.length ∧ hasB (nth xs k) i = true ∧ nth es j = (i : Int) := by
                have := elem_at hp hlt (m := j) (by rw [← HES.out]; exact hjl)
                rw [← HES.out] at this
                exact this
              obtain ⟨b3, off3, e3, hbl3, hc3⟩ := hx2.cell i hil
              simp only [Option.some.injEq, Addr.mk.injEq, and_true] at e3
              obtain ⟨rfl, rfl⟩ := e3
              have hpi := hp.pos i hil
              have hsi := hp.small i hil
              have hsub := sub_i (a := nth xs i) (b := nth xs k) hpi (by omega) hpk (by omega)
              have HB := Lib.hid hib
              have HE := Lib.hid hie
              rw [hie] at hc2
              clear hib hie
              by_cases hz : sub (nth xs i).toNat (nth xs k).toNat = 0
              · have hne : (bits BinOp.andNot IntKind.i64 (nth xs i) (nth xs k) != 0) = false := by rw [hsub, hz]; rfl
                have HZ := Lib.hid hz
                clear hz hsub
                go_wp2_with fail
                go_round
                case rel =>
                  refine ⟨j + 1, by omega, by go_num, fun m hm => ?_⟩
                  by_cases e : m = j
                  · rw [e, HE.out, Int.toNat_natCast]; exact HZ.out
                  · exact HIN.out m (by omega)
                case measure => simp [intOf]; omega
              · have hne : (bits BinOp.andNot IntKind.i64 (nth xs i) (nth xs k) != 0) = true := by rw [hsub]; simp; omega
                have HN := Lib.hid (ordB_no (n := n) hlt (okAtB_sub hil HB.out hz))
                clear hz hsub
                go_wp2_with fail
                go_ret
                exact ⟨ret_bool HN.out.symm, bw2⟩
            · obtain rfl : j = es.length := by omega
              have hok : okAtB xs k = true := by
                rw [okAtB_iff]
                refine ⟨HI.out, fun j hj hbj => ?_⟩
                obtain ⟨m, hm, e⟩ := at_elem hp hlt hbj
                rw [← HES.out] at hm e
                have := HIN.out m hm
                rwa [e, Int.toNat_natCast] at this
              have HK := Lib.hid hok
              clear hok
              go_wp2_with fail
              go_roundw
              case rel =>
                refine ⟨k + 1, by omega, by go_num, fun j hj => ?_, bk2⟩
                by_cases e : j = k
                · rw [e]; exact HK.out
                · exact HA.out j (by omega)
              case measure => simp [intOf]; omega
        · have HN := Lib.hid (ordB_no (n := n) hlt (okAtB_has hin))
          go_wp2_with fail
          refine (orHas_any _ _ _ hpk hsk' (by omega)).mono ?_
          rintro e w' ⟨rfl, rfl⟩
          go_wp2_with fail
          go_ret
          exact ⟨ret_bool HN.out.symm, bwr⟩
      · obtain rfl : k = xs.length := by omega
        go_wp2_with fail
        go_ret
        exact ⟨ret_bool (ordB_iff.2 ⟨HR.out, HA.out⟩).symm, bwr⟩

theorem orFree_any (n : Int) (a : Option Addr) (xs : List Int) (cap : Nat) (k : Nat) (w : World) (hx : Rd w a xs) (hr : RelP n xs) (hk : k < xs.length) :
    Calls Tryd.prog 41 #[.agg #[.int .i64 n, .slice a xs.length cap], .int .i64 k] w fun e w' => e = .returned (.int .i64 (freeN xs k)) ∧ Below w.heap.size w w' := by
  have hx1 := hx.alloc (.cells #[.int .i64 n, .slice a xs.length cap] 28)
  have hn := hr.n1
  have h0 := hr.n0
  have hk0 : (0 : Int) ≤ (k : Int) := by omega
  have hk1 : (k : Int) < (xs.length : Int) := by omega
  have HF := Lib.hid (free_val hr hk)
  obtain ⟨b, off, rfl, hbl, hc⟩ := hx1.cell k hk
  obtain ⟨b', off', e', hbl', hc'⟩ := hx.cell k hk
  simp only [Option.some.injEq, Addr.mk.injEq, and_true] at e'
  obtain ⟨rfl, rfl⟩ := e'
  go_enter Tryd.func41, Tryd.ntmps41
  go_wp2_with fail
  go_region_held3 (fun w' => w'.cell? ⟨w.heap.size, 0, none⟩ = some (.int .i64 n) ∧ w'.cell? ⟨w.heap.size, 1, none⟩ = some (.slice (some ⟨b, off, none⟩) xs.length cap) ∧ w'.cell? ⟨b, off + k, none⟩ = some (.int .i64 (nth xs k)))
    (first | exact ⟨P1.2.1, P1.2.2, q1⟩ | go_keep)
    (first | (go_at_call 67; refine (orBelow_any _ _ _ _ _ _ (hx1.below (Joins.below_draws _ _ _)) hr (by omega)).mono ?_; rintro e w1 ⟨rfl, hb1⟩; have ht1 : Below (w.alloc (.cells #[.int .i64 n, .slice (some ⟨b, off, none⟩) xs.length cap] 28)).heap.size (w.alloc (.cells #[.int .i64 n, .slice (some ⟨b, off, none⟩) xs.length cap] 28)) w1 := (Joins.below_draws _ _ _).trans hb1; have P1 := (Box2.new w _ _ _).below ht1; have q1 := (ht1.cell (p := ⟨b, off + k, none⟩) hbl).trans hc))
  go_wp2_with fail
  go_ret
  exact ⟨ret_int (by rw [show min k 64 = k from by have := hr.len; omega, ← HF.out]; simp only [i64_wrap]), Below.trans (by repeat (first | exact Below.refl _ _ | assumption | refine Below.alloc ?_ (by first | exact Nat.le_refl _ | (simp only [World.size_alloc, World.size_setCell, World.size_drew]; omega) | omega) _ | refine Below.setCell ?_ (by first | exact Nat.le_refl _ | (simp only [World.size_alloc, World.size_setCell, World.size_drew]; omega) | omega) _ | refine Below.drew ?_)) (ht1.mono (by first | (simp only [World.size_alloc, World.size_setCell, World.size_drew]; omega) | omega))⟩

theorem OwnI.new (w : World) (xs : List Int) (h : xs.length ≤ 1048576) : OwnI (w.alloc (.cells (xs.map (Value.int .i64)).toArray 3)) w.heap.size (.slice (some ⟨w.heap.size, 0, none⟩) xs.length xs.length) xs :=
  ⟨by simp, .inr ⟨w.heap.size, xs.length, (xs.map (Value.int .i64)).toArray, rfl, Nat.le_refl _, heap_alloc_new w _, Nat.le_refl _, by unfold maxLen; omega, by simp, by simp [List.take_of_length_le]⟩⟩

set_option maxRecDepth 100000 in
theorem sOne_any (n : Int) (a : Option Addr) (xs : List Int) (cap : Nat) (w : World) (hn : -9223372036854775808 ≤ n ∧ n ≤ 9223372036854775807) (hx : Rd w a xs) :
    Calls Tryd.prog 30 #[.agg #[.int .i64 n, .slice a xs.length cap]] w fun e w' => ∃ a' cap', e = .returned (.tuple #[.slice a' (onL n xs).length cap', .bool (onO n xs)]) ∧ OwnI w' w.heap.size (.slice a' (onL n xs).length cap') (onL n xs) ∧ Below w.heap.size w w' := by
  have hx1 := hx.alloc (.cells #[.int .i64 n, .slice a xs.length cap] 28)
  go_enter Tryd.func30, Tryd.ntmps30
  go_wp2_with fail
  refine (orGood_any _ _ _ _ _ hx1).mono ?_
  rintro e w1 ⟨rfl, hb1⟩
  have A1 : Box2 w1 w.heap.size (.int .i64 n) (.slice a xs.length cap) := (Box2.new w _ _ _).below hb1
  have bw1 : Below w.heap.size w w1 := Below.trans (by repeat (first | exact Below.refl _ _ | assumption | refine Below.alloc ?_ (by first | exact Nat.le_refl _ | (simp only [World.size_alloc, World.size_setCell, World.size_drew]; omega) | omega) _ | refine Below.setCell ?_ (by first | exact Nat.le_refl _ | (simp only [World.size_alloc, World.size_setCell, World.size_drew]; omega) | omega) _ | refine Below.drew ?_)) (hb1.mono (by first | (simp only [World.size_alloc, World.size_setCell, World.size_drew]; omega) | omega))
  clear hb1 hx1
  cases hr : ordB n xs
  · have H1 : Hid (onL n xs = []) := by simp [Hid, onL, hr]
    have H2 : Hid (onO n xs = false) := by simp [Hid, onO, hr]
    clear hr
    go_wp2_with fail
    refine bodyPost_ret (v := .tuple #[.slice none 0 0, .bool false]) (by simp [results, Tryd.results30, go_sem]) rfl ?_
    exact ⟨none, 0, by rw [H1.out, H2.out]; rfl, by rw [H1.out]; exact OwnI.nil _ _, bw1⟩
  · have hp := ord_rel hr
    have h10 : xs.length ≤ 10 := by have := hp.len; have := hp.n1; omega
    have HR := Lib.hid hr
    obtain rfl : n = (xs.length : Int) := hp.len.symm
    have ⟨zA, cA, dA⟩ := A1
    clear hr
    go_wp2_with fail
    clear cA dA
    go_loopw [4] (fun i' wr => ∃ k : Nat, k ≤ xs.length ∧ i' = .int .i64 k ∧ NoOs xs k 0 ∧ Below w.heap.size w wr ∧ Box2 wr w.heap.size (.int .i64 (xs.length : Int)) (.slice a xs.length cap)) (fun i' _ => xs.length - (intOf i').toNat)
    case atStart => exact ⟨0, Nat.zero_le _, rfl, ⟨fun c hc => by omega, fun b hb => by omega⟩, bw1, A1⟩
    case round =>
      clear A1 bw1
      obtain ⟨k, hk, rfl, hall, hb, hB⟩ := hrel
      have ⟨zr, cr, dr⟩ := hB
      have HA := Lib.hid hall
      clear hall
      by_cases hlt : k < xs.length
      · have pk := hp.pos k hlt
        have sk := hp.small k hlt
        have k0 : (0 : Int) ≤ (k : Int) := by omega
        have k1 : (k : Int) < (xs.length : Int) := by omega
        obtain ⟨b, off, rfl, hbl, hck⟩ := (hx.below hb).cell k hlt
        obtain ⟨es, hes⟩ : ∃ es, es = elems (nth xs k).toNat := ⟨_, rfl⟩
        have hesl : es.length ≤ 10 := by rw [hes]; exact elems_len _
        have HES := Lib.hid hes
        clear hes
        go_wp2_with fail
        refine (orList_any _ _ pk sk).mono ?_
        rw [← HES.out]
        rintro e w2 ⟨a2, c2, rfl, ho2, hb2⟩
        have bw2 := hb.trans (hb2.mono hb.size)
        have B2 := hB.below hb2
        have hr2 := ho2.rd
        clear ho2 hb2 hck cr dr
        go_wp2_with fail
        go_loopw [25] (fun i' wr => ∃ p : Nat, p ≤ es.length ∧ i' = .int .i64 p ∧ NoOs xs k p ∧ Below w2.heap.size w2 wr ∧ Box2 wr w.heap.size (.int .i64 (xs.length : Int)) (.slice (some ⟨b, off, none⟩) xs.length cap)) (fun i' _ => es.length - (intOf i').toNat)
        case atStart => exact ⟨0, Nat.zero_le _, rfl, HA.out, Below.refl _ _, B2⟩
        case round =>
          clear B2 hb hB
          obtain ⟨p, hpl, rfl, hall, hb, hB⟩ := hrel
          have bwr := bw2.trans (hb.mono bw2.size)
          have ⟨zr2, cr2, dr2⟩ := hB
          have HL := Lib.hid hall
          clear hall
          by_cases hlt2 : p < es.length
          · obtain ⟨l, hll, hlb, hle⟩ : ∃ l : Nat, l < xs.length ∧ hasB (nth xs k) l = true ∧ nth es p = (l : Int) := by
              have := elem_at hp hlt (m := p) (by rw [← HES.out]; exact hlt2)
              rw [← HES.out] at this
              obtain ⟨l, h1, h2, h3⟩ := this
              exact ⟨l, h1, h2, h3⟩
            obtain ⟨b3, off3, rfl, hbl3, hc3⟩ := (hr2.below hb).cell p hlt2
            rw [hle] at hc3
            have HLE := Lib.hid hle
            have p1 : (p : Int) < (es.length : Int) := by omega
            obtain ⟨S, hS⟩ : ∃ S, S = onS xs k l := ⟨_, rfl⟩
            have hSl : S < 1024 := by rw [hS]; exact onS_lt h10 k l
            have HAND : Hid (bits .and .i64 ((freeN xs k : Nat) : Int) ((freeN xs l : Nat) : Int) = (S : Int)) := by
              have q1 := freeN_lt h10 k
              have q2 := freeN_lt h10 l
              rw [Hid, hS]
              exact and_nat _ _ (by omega) (by omega)
            have HS := Lib.hid hS
            have S0 : (0 : Int) ≤ (S : Int) := by omega
            have S1 : (S : Int) < 1024 := by omega
            obtain ⟨gs, hgs⟩ : ∃ gs, gs = elems S := ⟨_, rfl⟩
            have hgsl : gs.length ≤ 10 := by rw [hgs]; exact elems_len _
            have HGS := Lib.hid hgs
            have HEN : Hid (elems ((S : Int).toNat) = gs) := by rw [Hid, hgs]; rfl
            clear hS hgs hle hlb
            go_wp2_with fail
            go_region_held3 (fun w' => w'.cell? ⟨w.heap.size, 0, none⟩ = some (.int .i64 (xs.length : Int)) ∧ w'.cell? ⟨w.heap.size, 1, none⟩ = some (.slice (some ⟨b, off, none⟩) xs.length cap))
              (first | exact ⟨A6.2.1, A6.2.2⟩ | exact ⟨A5.2.1, A5.2.2⟩ | exact ⟨A4.2.1, A4.2.2⟩ | go_keep)
              (first | (have _g := ht5; go_at_call 40; rw [HAND.out]; refine (orList_any _ _ S0 S1).mono ?_; rw [HEN.out]; rintro e w6 ⟨a6, c6, rfl, ho6, hb6⟩; have A6 := A5.below hb6) | (have _g := ht4; go_at_call 41; refine (orFree_any _ _ _ _ l _ (hx.below bw4) hp hll).mono ?_; rintro e w5 ⟨rfl, hb5⟩; have ht5 := ht4.trans (hb5.mono ht4.size); have A5 := A4.below hb5; have bw5 := bwr.trans (ht5.mono bwr.size)) | (go_at_call 41; refine (orFree_any _ _ _ _ k _ (hx.below (bwr.trans (Joins.below_draws _ _ _))) hp hlt).mono ?_; rintro e w4 ⟨rfl, hb4⟩; have ht4 : Below wr.heap.size wr w4 := (Joins.below_draws _ _ _).trans hb4; have A4 := hB.below ht4; have bw4 := bwr.trans (ht4.mono bwr.size)))
            have ht6 := ht5.trans (hb6.mono ht5.size)
            have bw6 := bwr.trans (ht6.mono bwr.size)
            have b26 := hb.trans (ht6.mono hb.size)
            have hr6 := ho6.rd
            clear ho6 hb6 hb4 hb5 ht4 ht5 A4 A5 bw4 bw5 hc3 cr2 dr2
            go_wp2_with fail
            by_cases hg0 : gs.length = 0
            · have hfin : Hid (NoOs xs k (p+1)) := by
                refine HL.out.b (l := l) (by rw [← HES.out, HLE.out]; rfl) ?_
                rw [onC, ← HS.out]
                exact findE_nil (fun i hi => by rw [← HGS.out] at hi; omega)
              have hg1 : ¬ (0 : Int) < (gs.length : Int) := by omega
              go_loopw [38] (fun i' wr => i' = .int .i64 0 ∧ wr = w6) (fun _ _ => 0)
              case atStart => exact ⟨rfl, rfl⟩
              case round =>
                obtain ⟨rfl, rfl⟩ := hrel
                go_wp2_with fail
                go_roundw
                case rel => exact ⟨p + 1, by omega, by go_num, hfin.out, b26, A6⟩
                case measure => simp [intOf]; omega
            · have hgp : 0 < gs.length := Nat.pos_of_ne_zero hg0
              have hg1 : (0 : Int) < (gs.length : Int) := by omega
              obtain ⟨b8, off8, rfl, hbl8, hc8⟩ := hr6.cell 0 hgp
              rw [Nat.add_zero] at hc8
              have hd : 0 ≤ nth gs 0 := by
                have h1 := nth_mem hgp
                rw [HGS.out, mem_elems hSl] at h1
                obtain ⟨d, _, e⟩ := h1
                rw [HGS.out, e]; omega
              have hfour : onC xs k l = some (tri k l (nth gs 0).toNat) := by
                rw [onC, ← HS.out]
                exact findE_at (p := 0) (by rw [← HGS.out]; exact hgp) (by rw [← HGS.out]) (fun i hi => by omega)
              have ht := HL.out.yes hlt (by rw [← HES.out]; exact hlt2) (by rw [← HES.out, HLE.out]; rfl) hfour
              have H1' : Hid (onL (xs.length : Int) xs = [(k : Int), (l : Int), nth gs 0]) := by
                simp only [Hid, onL, HR.out, ht]
                simp only [tri, if_true, Option.getD_some]
                rw [show (((nth gs 0).toNat : Nat) : Int) = nth gs 0 from by omega]
              have H2' : Hid (onO (xs.length : Int) xs = true) := by simp only [Hid, onO, HR.out, ht]; rfl
              clear hg0 hfour ht
              go_loopw [38] (fun i' wr => i' = .int .i64 0 ∧ wr = w6) (fun _ _ => 0)
              case atStart => exact ⟨rfl, rfl⟩
              case round =>
                obtain ⟨rfl, rfl⟩ := hrel
                go_wp2_with fail
                refine bodyPost_ret (v := .tuple #[.slice (some ⟨wr.heap.size, 0, none⟩) 3 3, .bool true]) (by simp [results, Tryd.results30, go_sem]) rfl ?_
                refine ⟨some ⟨wr.heap.size, 0, none⟩, 3, by rw [H1'.out, H2'.out]; rfl, ?_, bw6.alloc bw6.size _⟩
                rw [H1'.out]
                exact (OwnI.new wr [(k : Int), (l : Int), nth gs 0] (by simp)).mono bw6.size
          · obtain rfl : p = es.length := by omega
            have hfin : Hid (NoOs xs (k+1) 0) := by
              have h1 := HL.out
              rw [HES.out] at h1
              exact h1.a
            go_wp2_with fail
            go_roundw
            case rel => exact ⟨k + 1, by omega, by go_num, hfin.out, bwr, hB⟩
            case measure => simp [intOf]; omega
      · obtain rfl : k = xs.length := by omega
        have ht := HA.out.no
        have H1 : Hid (onL (xs.length : Int) xs = []) := by simp only [Hid, onL, HR.out, ht]; rfl
        have H2 : Hid (onO (xs.length : Int) xs = false) := by simp only [Hid, onO, HR.out, ht]; rfl
        clear ht
        go_wp2_with fail
        refine bodyPost_ret (v := .tuple #[.slice none 0 0, .bool false]) (by simp [results, Tryd.results30, go_sem]) rfl ?_
        exact ⟨none, 0, by rw [H1.out, H2.out]; rfl, by rw [H1.out]; exact OwnI.nil _ _, hb⟩

/-- the table of 64 small numbers that the library reads -/
def tab64 : List Int := [0, 1, 56, 2, 57, 49, 28, 3, 61, 58, 42, 50, 38, 29, 17, 4, 62, 47, 59, 36, 45, 43, 51, 22, 53, 39, 33, 30, 24, 18, 12, 5, 63, 55, 48, 27, 60, 41, 37, 16, 46, 35, 44, 21, 52, 32, 23, 11, 54, 26, 40, 15, 34, 20, 31, 10, 25, 14, 19, 9, 13, 8, 7, 6]
/-- the table stands in its block -/
def TabOk (w : World) : Prop := 1 < w.heap.size ∧ ∀ k, k < 64 → w.cell? ⟨1, k, none⟩ = some (.int .u8 (nth tab64 k))
theorem TabOk.below {w w' : World} (h : TabOk w) (hb : Below w.heap.size w w') : TabOk w' :=
  ⟨Nat.lt_of_lt_of_le h.1 hb.size, fun k hk => (hb.cell (p := ⟨1, k, none⟩) h.1).trans (h.2 k hk)⟩
theorem gTab32 : Tryd.prog.globalNamed "math/bits.deBruijn32tab" = some 0 := by kernel_rfl
theorem gTab64 : Tryd.prog.globalNamed "math/bits.deBruijn64tab" = some 1 := by kernel_rfl
theorem tTab64 : (Tryd.prog.globals[1]?).map (·.type) = some 88 := by kernel_rfl
def ldT {H : Type} : List (String × DataW H) := [("math/bits.deBruijn32tab", Rows.laid_math_bits_deBruijn32tab), ("math/bits.deBruijn64tab", Rows.laid_math_bits_deBruijn64tab)]
theorem door_met (os : Os) (args : Array Value) : laidMetH Tryd.prog ldT ((World.doorLaid Tryd.prog 400 os).forCall (fun _ _ => 0) ⟨#[], args, []⟩).memory :=
  laidMetH_of_parts3 (fuel := 8) (laidMet_of_run' 8 (by kernel_rfl) (by kernel_rfl)) (by kernel_rfl) (by kernel_rfl)
set_option maxRecDepth 100000 in
theorem of_laid {W : World} (h : laidMetH Tryd.prog ldT W) : TabOk W := by
  unfold ldT at h
  rw [MakeChecks.laidMetH_plain _ _ _ (by kernel_rfl)] at h
  obtain ⟨ps, ⟨g0, t0, cs0, f0, p0, q0, hg0, ht0, hv0, hd0, ⟨g1, t1, cs1, f1, p1, q1, hg1, ht1, hv1, hd1, _, _⟩, _⟩, _, _⟩ := h
  obtain rfl := Option.some.inj (gTab32.symm.trans hg0)
  obtain rfl := Option.some.inj (gTab64.symm.trans hg1)
  obtain rfl := Option.some.inj (tTab64.symm.trans ht1)
  obtain ⟨xs, m1, e1, hx1, hlen, hn3, hel⟩ := DataW.trod_array Tryd.underlying88 hd1
  have c5 : Tryd.prog.cellsOf 5 = 1 := by kernel_rfl
  have c64 : Tryd.prog.cellsOf 88 = 64 := by kernel_rfl
  rw [c64] at hlen
  have hL : (Rows.laid_math_bits_deBruijn64tab : DataW Unit) = .agg (tab64.map fun z => .lit (.int .u8 z)) := rfl
  rw [hL] at hx1
  simp only [Prod.mk.injEq, DataW.agg.injEq] at hx1
  have cell : ∀ k, k < 64 → W.cell? ⟨1, k, none⟩ = some (.int .u8 (nth tab64 k)) := by
    intro k hk
    have h1 := hel k hk
    have hk2 : k < cs1.toList.length := by omega
    have hd : List.take 1 (List.drop (k * 1) cs1.toList) = [cs1.toList[k]] := by
      rw [Nat.mul_one, List.drop_eq_getElem_cons hk2]; rfl
    rw [c5, hd] at h1
    have hxk : k < xs.length := by omega
    rw [List.getElem?_eq_getElem hxk] at h1
    obtain ⟨z, e2, e3, _⟩ := DataW.trod_int Tryd.underlying5 h1
    have h2 : (xs.map fun x => x.fst)[k]'(by simpa using hxk) = xs[k].fst := by simp
    have h3 : (tab64.map fun z => (DataW.lit (.int .u8 z) : DataW Unit))[k]'(by simp [tab64]; omega) = .lit (.int .u8 (nth tab64 k)) := by
      rw [List.getElem_map, nth_get tab64 k (by simp [tab64]; omega)]
    have h4 : (DataW.lit (.int .u8 (nth tab64 k)) : DataW Unit) = xs[k].fst := by rw [← h3, ← h2]; exact List.getElem_of_eq hx1.1 _
    have h5 : z = nth tab64 k := by
      rw [e3] at h4
      simpa using h4.symm
    have h6 := World.var?_cell hg1 hv1 k
    rw [h6]
    have h7 : cs1[k]? = some cs1.toList[k] := by rw [← Array.getElem?_toList, List.getElem?_eq_getElem hk2]
    rw [h7]
    simp only [List.cons.injEq, and_true] at e2
    rw [e2, h5]
  exact ⟨World.block_lt_of_cell? _ _ (cell 0 (by omega)), cell⟩

/-- the least element of a set below 1024 -/
def lowN (s : Nat) : Nat := ((List.range 10).find? (fun k => s.testBit k)).getD 0
def ixN (s : Nat) : Int := IntKind.u64.wrap (bits .and .u64 (s : Int) (IntKind.u64.wrap (-(s : Int))) * 285870213051353865) / 288230376151711744
def tzOk (s : Nat) : Bool := decide (0 ≤ ixN s) && decide (ixN s < 64) && decide (nth tab64 (ixN s).toNat = ((lowN s : Nat) : Int)) && decide (lowN s < 10)
theorem tz_all : ∀ s : Fin 1024, (s.val == 0 || tzOk s.val) = true := by decide +kernel
theorem tz_ok {s : Nat} (h0 : 0 < s) (h1 : s < 1024) : 0 ≤ ixN s ∧ ixN s < 64 ∧ nth tab64 (ixN s).toNat = ((lowN s : Nat) : Int) ∧ lowN s < 10 := by
  have h := tz_all ⟨s, h1⟩
  have hz : (s == 0) = false := by simp; omega
  simp only [hz, Bool.false_or, tzOk, Bool.and_eq_true, decide_eq_true_eq, and_assoc] at h
  exact h
theorem tz64_any (s : Nat) (w : World) (h0 : 0 < s) (h1 : s < 1024) (hT : TabOk w) :
    Calls Tryd.prog 99 #[.int .u64 (s : Int)] w fun e w' => e = .returned (.int .i64 ((lowN s : Nat) : Int)) ∧ w = w' := by
  have hz : ((s : Int) == 0) = false := by simp; omega
  obtain ⟨i0, i1, i2, i3⟩ := tz_ok h0 h1
  have hc := hT.2 (ixN s).toNat (by omega)
  rw [i2] at hc
  obtain ⟨d, hd⟩ : ∃ d, d = lowN s := ⟨_, rfl⟩
  rw [← hd] at hc i3 ⊢
  simp only [ixN] at hc i0 i1
  clear i2 hd hT
  go_enter Tryd.func99, Tryd.ntmps99
  go_wp2_with fail
  go_ret
  exact ⟨rfl, rfl⟩
theorem tz_any (s : Nat) (w : World) (h0 : 0 < s) (h1 : s < 1024) (hT : TabOk w) :
    Calls Tryd.prog 76 #[.int .u64 (s : Int)] w fun e w' => e = .returned (.int .i64 ((lowN s : Nat) : Int)) ∧ w = w' := by
  go_enter Tryd.func76, Tryd.ntmps76
  go_wp2_with fail
  refine (tz64_any s _ h0 h1 hT).mono ?_
  rintro e w' ⟨rfl, rfl⟩
  go_wp2_with fail
  go_ret
  exact ⟨rfl, rfl⟩

theorem low_find (s : Nat) (g : Nat → List Int) : ∀ n, find1 (fun d => if s.testBit d then some (g d) else none) n = ((List.range n).find? (fun k => s.testBit k)).map g := by
  intro n
  unfold find1
  induction (List.range n) with
  | nil => rfl
  | cons x l ih =>
    simp only [List.findSome?_cons, List.find?_cons]
    cases h : s.testBit x
    · simpa using ih
    · rfl
theorem thrC_low {xs : List Int} (h10 : xs.length ≤ 10) {a b c : Nat} (h : thrS xs a b c ≠ 0) : thrC xs a b c = some (four a b c (lowN (thrS xs a b c))) := by
  have hs := thrS_lt h10 a b c
  rw [thrC, findE_eq (n := 10) _ hs (by omega)]
  show find1 (fun d => if (thrS xs a b c).testBit d then some (four a b c d) else none) 10 = _
  rw [low_find (thrS xs a b c) (four a b c) 10]
  unfold lowN
  cases hf : (List.range 10).find? (fun k => (thrS xs a b c).testBit k) with
  | some d => simp
  | none =>
    exfalso
    apply h
    apply Nat.eq_of_testBit_eq
    intro i
    rw [Nat.zero_testBit]
    rcases Nat.lt_or_ge i 10 with hi | hi
    · rw [List.find?_eq_none] at hf
      simpa using hf i (by simpa using hi)
    · exact Nat.testBit_lt_two_pow (Nat.lt_of_lt_of_le hs (Nat.pow_le_pow_right (by omega : 0 < 2) hi))

theorem firstElement_any (s : Nat) (w : World) (h0 : 0 < s) (h1 : s < 1024) (hT : TabOk w) :
    Calls Tryd.prog 45 #[.int .i64 (s : Int)] w fun e w' => e = .returned (.int .i64 ((lowN s : Nat) : Int)) ∧ w = w' := by
  have s1 : (s : Int) < 1024 := by omega
  go_enter Tryd.func45, Tryd.ntmps45
  go_wp2_with fail
  refine (tz_any s _ h0 h1 hT).mono ?_
  rintro e w' ⟨rfl, rfl⟩
  go_wp2_with fail
  go_ret
  exact ⟨rfl, rfl⟩

/-- the set of all elements above one of those of a set that are less than k -/
def aboveTo (xs : List Int) (s : Int) : Nat → Nat
  | 0 => 0
  | k+1 => if hasB s k then aboveTo xs s k ||| (nth xs k).toNat else aboveTo xs s k
theorem aboveTo_lt {n : Int} {xs : List Int} (hp : RelP n xs) (s : Int) : ∀ k, k ≤ xs.length → aboveTo xs s k < 2 ^ 10
  | 0, _ => by simp [aboveTo]
  | k+1, hk => by
    have h := aboveTo_lt hp s k (by omega)
    have h1 := hp.small k (by omega)
    have h0 := hp.pos k (by omega)
    simp only [aboveTo]
    split
    · exact or_lt h (by omega)
    · exact h
theorem aboveTo_bit (xs : List Int) (s : Int) (j : Nat) : ∀ k, (aboveTo xs s k).testBit j = true ↔ ∃ i, i < k ∧ hasB s i = true ∧ (nth xs i).toNat.testBit j = true
  | 0 => by simp [aboveTo]
  | k+1 => by
    have ih := aboveTo_bit xs s j k
    simp only [aboveTo]
    cases hb : hasB s k
    · rw [if_neg (by simp), ih]
      constructor
      · rintro ⟨i, h1, h2, h3⟩
        exact ⟨i, by omega, h2, h3⟩
      · rintro ⟨i, h1, h2, h3⟩
        have : i ≠ k := fun e => by rw [e, hb] at h2; cases h2
        exact ⟨i, by omega, h2, h3⟩
    · rw [if_pos rfl, Nat.testBit_or, Bool.or_eq_true, ih]
      constructor
      · rintro (⟨i, h1, h2, h3⟩ | h)
        · exact ⟨i, by omega, h2, h3⟩
        · exact ⟨k, by omega, hb, h⟩
      · rintro ⟨i, h1, h2, h3⟩
        by_cases e : i = k
        · subst e; exact .inr h3
        · exact .inl ⟨i, by omega, h2, h3⟩
theorem okAtB_above {xs : List Int} {k : Nat} (h : hasB (nth xs k) k = false) : okAtB xs k = (sub (aboveTo xs (nth xs k) xs.length) (nth xs k).toNat == 0) := by
  rw [Bool.eq_iff_iff, okAtB_iff, beq_iff_eq, sub_zero]
  constructor
  · rintro ⟨_, h2⟩ i hi
    obtain ⟨j, hj, hb, ht⟩ := (aboveTo_bit _ _ _ _).1 hi
    exact sub_zero.1 (h2 j hj hb) i ht
  · intro h2
    refine ⟨h, fun j hj hb => sub_zero.2 (fun i hi => h2 i ((aboveTo_bit _ _ _ _).2 ⟨j, hj, hb, hi⟩))⟩

theorem hasElement_any (s i : Int) (w : World) (h0 : 0 ≤ s) (h1 : s ≤ 9223372036854775807) (hi : 0 ≤ i) :
    Calls Tryd.prog 43 #[.int .i64 s, .int .i64 i] w fun e w' => e = .returned (.bool (hasB s i)) ∧ w = w' := by
  have H := Lib.hid (has_and h0 h1 hi)
  go_enter Tryd.func43, Tryd.ntmps43
  go_wp2
  go_ret
  exact ⟨ret_bool H.out, rfl⟩

theorem aboveAny_any (n : Int) (a : Option Addr) (xs : List Int) (cap : Nat) (s : Int) (w : World) (hx : Rd w a xs) (hr : RelP n xs) (h0 : 0 ≤ s) (h1 : s ≤ 9223372036854775807) :
    Calls Tryd.prog 73 #[.agg #[.int .i64 n, .slice a xs.length cap], .int .i64 s] w fun e w' => e = .returned (.int .i64 (aboveTo xs s xs.length)) ∧ Below w.heap.size w w' := by
  have hx1 := hx.alloc (.cells #[.int .i64 n, .slice a xs.length cap] 28)
  obtain rfl : n = (xs.length : Int) := hr.len.symm
  have hn : xs.length ≤ 10 := by have := hr.n1; omega
  go_enter Tryd.func73, Tryd.ntmps73
  go_wp2_with fail
  go_loop [5, 9] (fun s' i' => ∃ k : Nat, k ≤ xs.length ∧ i' = .int .i64 k ∧ s' = .int .i64 (aboveTo xs s k)) (fun _ i => xs.length - (intOf i).toNat)
  case atStart => exact ⟨0, Nat.zero_le _, rfl, rfl⟩
  case round =>
    obtain ⟨k, hk, rfl, rfl⟩ := hrel
    by_cases hlt : k < xs.length
    · obtain ⟨b, off, rfl, hbl, hc⟩ := hx1.cell k hlt
      obtain ⟨b', off', e', hbl', hc'⟩ := hx.cell k hlt
      simp only [Option.some.injEq, Addr.mk.injEq, and_true] at e'
      obtain ⟨rfl, rfl⟩ := e'
      have hpk := hr.pos k hlt
      have hsk := hr.small k hlt
      have hab := aboveTo_lt hr s k hk
      have hor := Lib.hid (or_i (a := (aboveTo xs s k : Nat)) (b := nth xs k) (by omega) (by omega) hpk (by omega))
      clear hab
      cases hin : hasB s k
      · go_wp2_with (go_at_call 43; refine (hasElement_any _ _ _ h0 h1 (by omega)).mono ?_; rintro e w' ⟨rfl, rfl⟩)
        go_round
        case rel => exact ⟨k + 1, by omega, by go_num, by simp [aboveTo, hin]⟩
        case measure => simp [intOf]; omega
      · go_wp2_with (go_at_call 43; refine (hasElement_any _ _ _ h0 h1 (by omega)).mono ?_; rintro e w' ⟨rfl, rfl⟩)
        go_round
        case rel => exact ⟨k + 1, by omega, by go_num, val_int (by rw [hor.out]; simp [aboveTo, hin])⟩
        case measure => simp [intOf]; omega
    · obtain rfl : k = xs.length := by omega
      go_wp2_with fail
      go_ret
      exact ⟨rfl, (by repeat (first | exact Below.refl _ _ | assumption | refine Below.alloc ?_ (by first | exact Nat.le_refl _ | (simp only [World.size_alloc, World.size_setCell, World.size_drew]; omega) | omega) _ | refine Below.setCell ?_ (by first | exact Nat.le_refl _ | (simp only [World.size_alloc, World.size_setCell, World.size_drew]; omega) | omega) _ | refine Below.drew ?_))⟩

theorem fullSet_any (n : Int) (w : World) (h0 : 0 ≤ n) (h1 : n ≤ 10) :
    Calls Tryd.prog 74 #[.int .i64 n] w fun e w' => e = .returned (.int .i64 (2 ^ n.toNat - 1)) ∧ w = w' := by
  have hf := Lib.hid (full_eq h0 h1)
  go_enter Tryd.func74, Tryd.ntmps74
  go_wp2
  go_ret
  exact ⟨ret_int hf.out, rfl⟩

theorem isSet_any (s n : Int) (w : World) (h0' : 0 ≤ n) (h1' : n ≤ 10) :
    Calls Tryd.prog 123 #[.int .i64 s, .int .i64 n] w fun e w' => e = .returned (.bool (inB s 0 (2 ^ n.toNat - 1))) ∧ w = w' := by
  by_cases h0 : 0 ≤ s
  · by_cases h1 : s ≤ 2 ^ n.toNat - 1
    · have hf := Lib.hid (inB_iff.2 ⟨h0, h1⟩)
      go_enter Tryd.func123, Tryd.ntmps123
      go_wp2_with (go_at_call 74; refine (fullSet_any _ _ h0' h1').mono ?_; rintro e w' ⟨rfl, rfl⟩)
      go_ret
      exact ⟨ret_bool (by rw [hf.out]; try simp [h1]), rfl⟩
    · have hf := Lib.hid (inB_no (lo := 0).2 (.inr (show 2 ^ n.toNat - 1 < s by omega)))
      go_enter Tryd.func123, Tryd.ntmps123
      go_wp2_with (go_at_call 74; refine (fullSet_any _ _ h0' h1').mono ?_; rintro e w' ⟨rfl, rfl⟩)
      go_ret
      exact ⟨ret_bool (by rw [hf.out]; try simp [h1]), rfl⟩
  · have hf := Lib.hid (inB_no (hi := 2 ^ n.toNat - 1).2 (.inl (show s < 0 by omega)))
    go_enter Tryd.func123, Tryd.ntmps123
    go_wp2_with fail
    go_ret
    exact ⟨ret_bool (by rw [hf.out]; try simp [h1]), rfl⟩

theorem areSets_any (a : Option Addr) (xs : List Int) (cap : Nat) (n : Int) (w : World) (hx : Rd w a xs) (h0' : 0 ≤ n) (h1' : n ≤ 10) :
    Calls Tryd.prog 97 #[.slice a xs.length cap, .int .i64 n] w fun e w' => e = .returned (.bool (allB xs 0 (2 ^ n.toNat - 1))) ∧ w = w' := by
  have hlen := hx.len
  go_enter Tryd.func97, Tryd.ntmps97
  go_wp2_with fail
  go_loop [9] (fun i => ∃ k : Nat, k ≤ xs.length ∧ i = .int .i64 k ∧ allB (xs.take k) 0 (2 ^ n.toNat - 1) = true) (fun i => xs.length - (intOf i).toNat)
  case atStart => exact ⟨0, Nat.zero_le _, rfl, rfl⟩
  case round =>
    obtain ⟨k, hk, rfl, hall⟩ := hrel
    by_cases hlt : k < xs.length
    · obtain ⟨b, off, rfl, hbl, hc⟩ := hx.cell k hlt
      cases hin : inB (nth xs k) 0 (2 ^ n.toNat - 1)
      · have hf := Lib.hid (allB_false hlt hin)
        go_wp2_with (go_at_call 123; refine (isSet_any _ _ _ h0' h1').mono ?_; rintro e w' ⟨rfl, rfl⟩)
        go_ret
        exact ⟨ret_bool hf.out.symm, rfl⟩
      · go_wp2_with (go_at_call 123; refine (isSet_any _ _ _ h0' h1').mono ?_; rintro e w' ⟨rfl, rfl⟩)
        go_round
        case rel => exact ⟨k + 1, by omega, by go_num, by rw [allB_take _ _ _ _ hlt, hall, hin]; rfl⟩
        case measure => simp [intOf]; omega
    · go_wp2_with fail
      go_ret
      exact ⟨ret_bool (by rw [← hall, List.take_of_length_le (by omega)]), rfl⟩

theorem iIsRelation_any (n : Int) (a : Option Addr) (xs : List Int) (cap : Nat) (w : World) (_hn : -9223372036854775808 ≤ n ∧ n ≤ 9223372036854775807) (hx : Rd w a xs) :
    Calls Tryd.prog 72 #[.agg #[.int .i64 n, .slice a xs.length cap]] w fun e w' => e = .returned (.bool (relB n xs)) ∧ Below w.heap.size w w' := by
  have hx1 := hx.alloc (.cells #[.int .i64 n, .slice a xs.length cap] 28)
  have hlen := hx.len
  by_cases h0 : 0 ≤ n
  · by_cases h1 : n ≤ 10
    · cases h2 : ((xs.length : Int) == n)
      · have HR : Hid (relB n xs = false) := by
          have : ¬ (xs.length : Int) = n := by simpa using h2
          simp [Hid, relB, this]
        go_enter Tryd.func72, Tryd.ntmps72
        go_wp2_with fail
        go_ret
        exact ⟨ret_bool HR.out.symm, (by repeat (first | exact Below.refl _ _ | assumption | refine Below.alloc ?_ (by first | exact Nat.le_refl _ | (simp only [World.size_alloc, World.size_setCell, World.size_drew]; omega) | omega) _ | refine Below.setCell ?_ (by first | exact Nat.le_refl _ | (simp only [World.size_alloc, World.size_setCell, World.size_drew]; omega) | omega) _ | refine Below.drew ?_))⟩
      · have HR : Hid (relB n xs = allB xs 0 (2 ^ n.toNat - 1)) := by
          have : (xs.length : Int) = n := by simpa using h2
          simp [Hid, relB, inB, h0, h1, this]
        go_enter Tryd.func72, Tryd.ntmps72
        go_wp2_with fail
        refine (areSets_any _ _ _ _ _ hx1 h0 h1).mono ?_
        rintro e w' ⟨rfl, rfl⟩
        go_wp2_with fail
        go_ret
        exact ⟨ret_bool HR.out.symm, (by repeat (first | exact Below.refl _ _ | assumption | refine Below.alloc ?_ (by first | exact Nat.le_refl _ | (simp only [World.size_alloc, World.size_setCell, World.size_drew]; omega) | omega) _ | refine Below.setCell ?_ (by first | exact Nat.le_refl _ | (simp only [World.size_alloc, World.size_setCell, World.size_drew]; omega) | omega) _ | refine Below.drew ?_))⟩
    · have HR : Hid (relB n xs = false) := by simp [Hid, relB, inB]; omega
      go_enter Tryd.func72, Tryd.ntmps72
      go_wp2_with fail
      go_ret
      exact ⟨ret_bool HR.out.symm, (by repeat (first | exact Below.refl _ _ | assumption | refine Below.alloc ?_ (by first | exact Nat.le_refl _ | (simp only [World.size_alloc, World.size_setCell, World.size_drew]; omega) | omega) _ | refine Below.setCell ?_ (by first | exact Nat.le_refl _ | (simp only [World.size_alloc, World.size_setCell, World.size_drew]; omega) | omega) _ | refine Below.drew ?_))⟩
  · have HR : Hid (relB n xs = false) := by simp [Hid, relB, inB]; omega
    go_enter Tryd.func72, Tryd.ntmps72
    go_wp2_with fail
    go_ret
    exact ⟨ret_bool HR.out.symm, (by repeat (first | exact Below.refl _ _ | assumption | refine Below.alloc ?_ (by first | exact Nat.le_refl _ | (simp only [World.size_alloc, World.size_setCell, World.size_drew]; omega) | omega) _ | refine Below.setCell ?_ (by first | exact Nat.le_refl _ | (simp only [World.size_alloc, World.size_setCell, World.size_drew]; omega) | omega) _ | refine Below.drew ?_))⟩

theorem iIsOrder_any (n : Int) (a : Option Addr) (xs : List Int) (cap : Nat) (w : World) (hn : -9223372036854775808 ≤ n ∧ n ≤ 9223372036854775807) (hx : Rd w a xs) :
    Calls Tryd.prog 42 #[.agg #[.int .i64 n, .slice a xs.length cap]] w fun e w' => e = .returned (.bool (ordB n xs)) ∧ Below w.heap.size w w' := by
  have hx1 := hx.alloc (.cells #[.int .i64 n, .slice a xs.length cap] 28)
  have hlen := hx.len
  cases hr : relB n xs
  · have HR : Hid (ordB n xs = false) := by simp [Hid, ordB, hr]
    go_enter Tryd.func42, Tryd.ntmps42
    go_wp2_with fail
    refine (iIsRelation_any _ _ _ _ _ hn hx1).mono ?_
    rintro e w1 ⟨rfl, hb1⟩
    go_wp2_with fail
    go_ret
    exact ⟨ret_bool HR.out.symm, Below.trans (by repeat (first | exact Below.refl _ _ | assumption | refine Below.alloc ?_ (by first | exact Nat.le_refl _ | (simp only [World.size_alloc, World.size_setCell, World.size_drew]; omega) | omega) _ | refine Below.setCell ?_ (by first | exact Nat.le_refl _ | (simp only [World.size_alloc, World.size_setCell, World.size_drew]; omega) | omega) _ | refine Below.drew ?_)) (hb1.mono (by first | (simp only [World.size_alloc, World.size_setCell, World.size_drew]; omega) | omega))⟩
  · have hp := relB_p hr
    go_enter Tryd.func42, Tryd.ntmps42
    go_wp2_with fail
    refine (iIsRelation_any _ _ _ _ _ hn hx1).mono ?_
    rintro e w1 ⟨rfl, hb1⟩
    have B1 := (Box2.new w _ _ _).below hb1
    have ⟨z1, c1, d1⟩ := B1
    have bw1 : Below w.heap.size w w1 := Below.trans (by repeat (first | exact Below.refl _ _ | assumption | refine Below.alloc ?_ (by first | exact Nat.le_refl _ | (simp only [World.size_alloc, World.size_setCell, World.size_drew]; omega) | omega) _ | refine Below.setCell ?_ (by first | exact Nat.le_refl _ | (simp only [World.size_alloc, World.size_setCell, World.size_drew]; omega) | omega) _ | refine Below.drew ?_)) (hb1.mono (by first | (simp only [World.size_alloc, World.size_setCell, World.size_drew]; omega) | omega))
    have HR := Lib.hid hr
    clear hb1
    go_wp2_with fail
    clear hr
    go_loopw [11] (fun i wr => ∃ k : Nat, k ≤ xs.length ∧ i = .int .i64 k ∧ (∀ j, j < k → okAtB xs j = true) ∧ Below w1.heap.size w1 wr) (fun i _ => xs.length - (intOf i).toNat)
    case atStart => exact ⟨0, Nat.zero_le _, rfl, fun j hj => by omega, Below.refl _ _⟩
    case round =>
      obtain ⟨k, hk, rfl, hall, hb⟩ := hrel
      have ⟨zr, cr, dr⟩ := B1.below hb
      have bwr := bw1.trans (hb.mono bw1.size)
      have HA := Lib.hid hall
      clear hall c1 d1
      by_cases hlt : k < xs.length
      · obtain ⟨b, off, rfl, hbl, hc⟩ := (hx.below bwr).cell k hlt
        have hpk := hp.pos k hlt
        have hsk := hp.small k hlt
        have hsk' : nth xs k ≤ 9223372036854775807 := by omega
        cases hin : hasB (nth xs k) k
        · have hab := aboveTo_lt hp (nth xs k) xs.length (Nat.le_refl _)
          have hsub := sub_i (a := (aboveTo xs (nth xs k) xs.length : Nat)) (b := nth xs k) (by omega) (by omega) hpk (by omega)
          have hok := okAtB_above hin
          rw [Int.toNat_natCast] at hsub
          cases hok2 : okAtB xs k
          · rw [hok2] at hok
            have hne : (bits BinOp.andNot IntKind.i64 ((aboveTo xs (nth xs k) xs.length : Nat) : Int) (nth xs k) != 0) = true := by
              rw [hsub]
              simpa using hok.symm
            have HN := Lib.hid (ordB_no (n := n) hlt hok2)
            clear hok2 hok hsub hab
            go_wp2_with fail
            refine (hasElement_any _ _ _ hpk hsk' (by omega)).mono ?_
            rintro e w' ⟨rfl, rfl⟩
            go_wp2_with fail
            refine (aboveAny_any _ _ _ _ _ _ (hx.below bwr) hp hpk hsk').mono ?_
            rintro e w2 ⟨rfl, hb2⟩
            go_wp2_with fail
            go_ret
            exact ⟨ret_bool HN.out.symm, bwr.trans (hb2.mono bwr.size)⟩
          · rw [hok2] at hok
            have hne : (bits BinOp.andNot IntKind.i64 ((aboveTo xs (nth xs k) xs.length : Nat) : Int) (nth xs k) != 0) = false := by
              rw [hsub]
              simpa using hok.symm
            have HN := Lib.hid hok2
            clear hok2 hok hsub hab
            go_wp2_with fail
            refine (hasElement_any _ _ _ hpk hsk' (by omega)).mono ?_
            rintro e w' ⟨rfl, rfl⟩
            go_wp2_with fail
            refine (aboveAny_any _ _ _ _ _ _ (hx.below bwr) hp hpk hsk').mono ?_
            rintro e w2 ⟨rfl, hb2⟩
            go_wp2_with fail
            go_roundw
            case rel =>
              refine ⟨k + 1, by omega, by go_num, fun j hj => ?_, hb.trans (hb2.mono hb.size)⟩
              by_cases e : j = k
              · rw [e]; exact HN.out
              · exact HA.out j (by omega)
            case measure => simp [intOf]; omega
        · have HN := Lib.hid (ordB_no (n := n) hlt (okAtB_has hin))
          go_wp2_with fail
          refine (hasElement_any _ _ _ hpk hsk' (by omega)).mono ?_
          rintro e w' ⟨rfl, rfl⟩
          go_wp2_with fail
          go_ret
          exact ⟨ret_bool HN.out.symm, bwr⟩
      · obtain rfl : k = xs.length := by omega
        go_wp2_with fail
        go_ret
        exact ⟨ret_bool (ordB_iff.2 ⟨HR.out, HA.out⟩).symm, bwr⟩

theorem belowSet_any (n : Int) (a : Option Addr) (xs : List Int) (cap : Nat) (i : Int) (w : World) (hx : Rd w a xs) (hr : RelP n xs) (hi : 0 ≤ i) :
    Calls Tryd.prog 75 #[.agg #[.int .i64 n, .slice a xs.length cap], .int .i64 i] w fun e w' => e = .returned (.int .i64 (belowTo xs i xs.length)) ∧ Below w.heap.size w w' := by
  have hx1 := hx.alloc (.cells #[.int .i64 n, .slice a xs.length cap] 28)
  have hn : xs.length ≤ 10 := by have := hr.len; have := hr.n1; omega
  go_enter Tryd.func75, Tryd.ntmps75
  go_wp2_with fail
  go_loop [5, 11] (fun s i' => ∃ k : Nat, k ≤ xs.length ∧ i' = .int .i64 k ∧ s = .int .i64 (belowTo xs i k)) (fun _ i => xs.length - (intOf i).toNat)
  case atStart => exact ⟨0, Nat.zero_le _, rfl, rfl⟩
  case round =>
    obtain ⟨k, hk, rfl, rfl⟩ := hrel
    by_cases hlt : k < xs.length
    · obtain ⟨b, off, rfl, hbl, hc⟩ := hx1.cell k hlt
      obtain ⟨b', off', e', hbl', hc'⟩ := hx.cell k hlt
      simp only [Option.some.injEq, Addr.mk.injEq, and_true] at e'
      obtain ⟨rfl, rfl⟩ := e'
      have hpk := hr.pos k hlt
      have hsk : nth xs k ≤ 9223372036854775807 := by have := hr.small k hlt; omega
      have hbs := belowTo_small xs i (k := k) (by omega)
      have hor := Lib.hid (or_bit (b := belowTo xs i k) (k := k) (by omega) (by omega))
      clear hbs
      cases hin : hasB (nth xs k) i
      · go_wp2_with (go_at_call 43; refine (hasElement_any _ _ _ hpk hsk hi).mono ?_; rintro e w' ⟨rfl, rfl⟩)
        go_round
        case rel => exact ⟨k + 1, by omega, by go_num, by simp [belowTo, hin]⟩
        case measure => simp [intOf]; omega
      · go_wp2_with (go_at_call 43; refine (hasElement_any _ _ _ hpk hsk hi).mono ?_; rintro e w' ⟨rfl, rfl⟩)
        go_round
        case rel => exact ⟨k + 1, by omega, by go_num, val_int (by rw [hor.out]; simp [belowTo, hin])⟩
        case measure => simp [intOf]; omega
    · obtain rfl : k = xs.length := by omega
      go_wp2_with fail
      go_ret
      exact ⟨rfl, (by repeat (first | exact Below.refl _ _ | assumption | refine Below.alloc ?_ (by first | exact Nat.le_refl _ | (simp only [World.size_alloc, World.size_setCell, World.size_drew]; omega) | omega) _ | refine Below.setCell ?_ (by first | exact Nat.le_refl _ | (simp only [World.size_alloc, World.size_setCell, World.size_drew]; omega) | omega) _ | refine Below.drew ?_))⟩

theorem indifferentSet_any (n : Int) (a : Option Addr) (xs : List Int) (cap : Nat) (k : Nat) (w : World) (hx : Rd w a xs) (hr : RelP n xs) (hk : k < xs.length) :
    Calls Tryd.prog 44 #[.agg #[.int .i64 n, .slice a xs.length cap], .int .i64 k] w fun e w' => e = .returned (.int .i64 (freeN xs k)) ∧ Below w.heap.size w w' := by
  have hx1 := hx.alloc (.cells #[.int .i64 n, .slice a xs.length cap] 28)
  have hn := hr.n1
  have h0 := hr.n0
  have hk0 : (0 : Int) ≤ (k : Int) := by omega
  have hk1 : (k : Int) < (xs.length : Int) := by omega
  have HF := Lib.hid (free_val2 hr hk)
  obtain ⟨b, off, rfl, hbl, hc⟩ := hx1.cell k hk
  obtain ⟨b', off', e', hbl', hc'⟩ := hx.cell k hk
  simp only [Option.some.injEq, Addr.mk.injEq, and_true] at e'
  obtain ⟨rfl, rfl⟩ := e'
  go_enter Tryd.func44, Tryd.ntmps44
  go_wp2_with fail
  go_region_held3 (fun w' => w'.cell? ⟨w.heap.size, 0, none⟩ = some (.int .i64 n) ∧ w'.cell? ⟨w.heap.size, 1, none⟩ = some (.slice (some ⟨b, off, none⟩) xs.length cap) ∧ w'.cell? ⟨b, off + k, none⟩ = some (.int .i64 (nth xs k)))
    (first | exact ⟨P1.2.1, P1.2.2, q1⟩ | go_keep)
    (first | (go_at_call 74; refine (fullSet_any _ _ h0 hn).mono ?_; rintro e w' ⟨rfl, rfl⟩) | (go_at_call 75; refine (belowSet_any _ _ _ _ _ _ (hx1.below (Joins.below_draws _ _ _)) hr (by omega)).mono ?_; rintro e w1 ⟨rfl, hb1⟩; have ht1 : Below (w.alloc (.cells #[.int .i64 n, .slice (some ⟨b, off, none⟩) xs.length cap] 28)).heap.size (w.alloc (.cells #[.int .i64 n, .slice (some ⟨b, off, none⟩) xs.length cap] 28)) w1 := (Joins.below_draws _ _ _).trans hb1; have P1 := (Box2.new w _ _ _).below ht1; have q1 := (ht1.cell (p := ⟨b, off + k, none⟩) hbl).trans hc))
  go_wp2_with fail
  go_ret
  exact ⟨ret_int (by rw [show min k 64 = k from by have := hr.len; omega, ← HF.out]; simp only [i64_wrap]), Below.trans (by repeat (first | exact Below.refl _ _ | assumption | refine Below.alloc ?_ (by first | exact Nat.le_refl _ | (simp only [World.size_alloc, World.size_setCell, World.size_drew]; omega) | omega) _ | refine Below.setCell ?_ (by first | exact Nat.le_refl _ | (simp only [World.size_alloc, World.size_setCell, World.size_drew]; omega) | omega) _ | refine Below.drew ?_)) (ht1.mono (by first | (simp only [World.size_alloc, World.size_setCell, World.size_drew]; omega) | omega))⟩

theorem onC_low {xs : List Int} (h10 : xs.length ≤ 10) {a b : Nat} (h : onS xs a b ≠ 0) : onC xs a b = some (tri a b (lowN (onS xs a b))) := by
  have hs := onS_lt h10 a b
  rw [onC, findE_eq (n := 10) _ hs (by omega)]
  show find1 (fun d => if (onS xs a b).testBit d then some (tri a b d) else none) 10 = _
  rw [low_find (onS xs a b) (tri a b) 10]
  unfold lowN
  cases hf : (List.range 10).find? (fun k => (onS xs a b).testBit k) with
  | some d => simp
  | none =>
    exfalso
    apply h
    apply Nat.eq_of_testBit_eq
    intro i
    rw [Nat.zero_testBit]
    rcases Nat.lt_or_ge i 10 with hi | hi
    · rw [List.find?_eq_none] at hf
      simpa using hf i (by simpa using hi)
    · exact Nat.testBit_lt_two_pow (Nat.lt_of_lt_of_le hs (Nat.pow_le_pow_right (by omega : 0 < 2) hi))
set_option maxRecDepth 100000 in
theorem iOne_any (n : Int) (a : Option Addr) (xs : List Int) (cap : Nat) (w : World) (hn : -9223372036854775808 ≤ n ∧ n ≤ 9223372036854775807) (hx : Rd w a xs) (hT : TabOk w) :
    Calls Tryd.prog 31 #[.agg #[.int .i64 n, .slice a xs.length cap]] w fun e w' => ∃ a' cap', e = .returned (.tuple #[.slice a' (onL n xs).length cap', .bool (onO n xs)]) ∧ OwnI w' w.heap.size (.slice a' (onL n xs).length cap') (onL n xs) ∧ Below w.heap.size w w' := by
  have hx1 := hx.alloc (.cells #[.int .i64 n, .slice a xs.length cap] 28)
  go_enter Tryd.func31, Tryd.ntmps31
  go_wp2_with fail
  refine (iIsOrder_any _ _ _ _ _ hn hx1).mono ?_
  rintro e w1 ⟨rfl, hb1⟩
  have A1 : Box2 w1 w.heap.size (.int .i64 n) (.slice a xs.length cap) := (Box2.new w _ _ _).below hb1
  have bw1 : Below w.heap.size w w1 := Below.trans (by repeat (first | exact Below.refl _ _ | assumption | refine Below.alloc ?_ (by first | exact Nat.le_refl _ | (simp only [World.size_alloc, World.size_setCell, World.size_drew]; omega) | omega) _ | refine Below.setCell ?_ (by first | exact Nat.le_refl _ | (simp only [World.size_alloc, World.size_setCell, World.size_drew]; omega) | omega) _ | refine Below.drew ?_)) (hb1.mono (by first | (simp only [World.size_alloc, World.size_setCell, World.size_drew]; omega) | omega))
  clear hb1 hx1
  cases hr : ordB n xs
  · have H1 : Hid (onL n xs = []) := by simp [Hid, onL, hr]
    have H2 : Hid (onO n xs = false) := by simp [Hid, onO, hr]
    clear hr
    go_wp2_with fail
    refine bodyPost_ret (v := .tuple #[.slice none 0 0, .bool false]) (by simp [results, Tryd.results31, go_sem]) rfl ?_
    exact ⟨none, 0, by rw [H1.out, H2.out]; rfl, by rw [H1.out]; exact OwnI.nil _ _, bw1⟩
  · have hp := ord_rel hr
    have h10 : xs.length ≤ 10 := by have := hp.len; have := hp.n1; omega
    have HR := Lib.hid hr
    obtain rfl : n = (xs.length : Int) := hp.len.symm
    have ⟨zA, cA, dA⟩ := A1
    clear hr
    go_wp2_with fail
    clear cA dA
    go_loopw [12] (fun i' wr => ∃ k : Nat, k ≤ xs.length ∧ i' = .int .i64 k ∧ NoOn xs k 0 ∧ Below w.heap.size w wr ∧ Box2 wr w.heap.size (.int .i64 (xs.length : Int)) (.slice a xs.length cap)) (fun i' _ => xs.length - (intOf i').toNat)
    case atStart => exact ⟨0, Nat.zero_le _, rfl, ⟨fun c hc => by omega, fun b hb => by omega⟩, bw1, A1⟩
    case round =>
      clear A1 bw1
      obtain ⟨k, hk, rfl, hall, hb, hB⟩ := hrel
      have ⟨zr, cr, dr⟩ := hB
      have HA := Lib.hid hall
      clear hall
      by_cases hlt : k < xs.length
      · have pk := hp.pos k hlt
        have sk : nth xs k ≤ 9223372036854775807 := by have := hp.small k hlt; omega
        have k0 : (0 : Int) ≤ (k : Int) := by omega
        have k1 : (k : Int) < (xs.length : Int) := by omega
        go_wp2_with fail
        clear cr dr
        go_loopw [17] (fun i' wr => ∃ l : Nat, l ≤ xs.length ∧ i' = .int .i64 l ∧ NoOn xs k l ∧ Below w.heap.size w wr ∧ Box2 wr w.heap.size (.int .i64 (xs.length : Int)) (.slice a xs.length cap)) (fun i' _ => xs.length - (intOf i').toNat)
        case atStart => exact ⟨0, Nat.zero_le _, rfl, HA.out, hb, hB⟩
        case round =>
          clear hb hB
          obtain ⟨l, hl, rfl, hall, hb, hB⟩ := hrel
          obtain ⟨wp, rfl⟩ : ∃ wp : World, wp = wr := ⟨_, rfl⟩
          have ⟨zr2, cr2, dr2⟩ := hB
          have HL := Lib.hid hall
          clear hall
          by_cases hlt2 : l < xs.length
          · have l0 : (0 : Int) ≤ (l : Int) := by omega
            have l1 : (l : Int) < (xs.length : Int) := by omega
            obtain ⟨S, hS⟩ : ∃ S, S = onS xs k l := ⟨_, rfl⟩
            have hSl : S < 1024 := by rw [hS]; exact onS_lt h10 k l
            have HAP : Hid (bits .and .i64 ((freeN xs k : Nat) : Int) ((freeN xs l : Nat) : Int) = (S : Int)) := by
              have q1 := freeN_lt h10 k
              have q2 := freeN_lt h10 l
              rw [Hid, hS]
              exact and_nat _ _ (by omega) (by omega)
            have HS := Lib.hid hS
            clear hS
            go_wp2_with fail
            go_region_held3 (fun w' => w'.cell? ⟨w.heap.size, 0, none⟩ = some (.int .i64 (xs.length : Int)) ∧ w'.cell? ⟨w.heap.size, 1, none⟩ = some (.slice a xs.length cap))
              (first | exact ⟨A3.2.1, A3.2.2⟩ | exact ⟨A2.2.1, A2.2.2⟩ | go_keep)
              (first | (have _g := ht2; go_at_call 44; refine (indifferentSet_any _ _ _ _ l _ (hx.below bw2) hp hlt2).mono ?_; rintro e w3 ⟨rfl, hb3⟩; have A3 := A2.below hb3) | (go_at_call 44; refine (indifferentSet_any _ _ _ _ k _ (hx.below (hb.trans (Joins.below_draws _ _ _))) hp hlt).mono ?_; rintro e w2 ⟨rfl, hb2⟩; have ht2 : Below wp.heap.size wp w2 := (Joins.below_draws _ _ _).trans hb2; have A2 := hB.below ht2; have bw2 := hb.trans (ht2.mono hb.size)))
            rw [HAP.out]
            have bw3 := bw2.trans (hb3.mono bw2.size)
            clear ht2 hb2 hb3 A2 bw2 cr2 dr2
            have ⟨zr3, cr3, dr3⟩ := A3
            have hT3 : TabOk w3 := hT.below bw3
            obtain ⟨b, off, rfl, hbl, hck⟩ := (hx.below bw3).cell k hlt
            cases h1 : hasB (nth xs k) l
            · have hfin := Lib.hid (HL.out.c (fun h => by rw [h1] at h; cases h))
              have H1 := Lib.hid h1
              clear h1
              go_wp2_with fail
              refine (hasElement_any _ _ _ pk sk l0).mono ?_
              rw [H1.out]
              rintro e w' ⟨rfl, rfl⟩
              go_wp2_with fail
              go_roundw
              case rel => exact ⟨l + 1, by omega, by go_num, hfin.out, bw3, A3⟩
              case measure => simp [intOf]; omega
            · by_cases hz : S = 0
              · have hfin := Lib.hid (HL.out.c (fun _ => onC_zero (by rw [← HS.out]; exact hz)))
                have H1 := Lib.hid h1
                have hzz : ((S : Int) != 0) = false := by simp [hz]
                clear h1 hz
                go_wp2_with fail
                refine (hasElement_any _ _ _ pk sk l0).mono ?_
                rw [H1.out]
                rintro e w' ⟨rfl, rfl⟩
                go_wp2_with fail
                go_roundw
                case rel => exact ⟨l + 1, by omega, by go_num, hfin.out, bw3, A3⟩
                case measure => simp [intOf]; omega
              · have ht := HL.out.yes hp hlt hlt2 h1 (by rw [onC_low h10 (by rw [← HS.out]; exact hz), ← HS.out])
                have H1' : Hid (onL (xs.length : Int) xs = [(k : Int), (l : Int), ((lowN S : Nat) : Int)]) := by simp only [Hid, onL, HR.out, ht]; rfl
                have H2' : Hid (onO (xs.length : Int) xs = true) := by simp only [Hid, onO, HR.out, ht]; rfl
                have hzz : ((S : Int) != 0) = true := by simp; omega
                have hpos : 0 < S := by omega
                have H1 := Lib.hid h1
                clear h1 hz ht
                go_wp2_with fail
                refine (hasElement_any _ _ _ pk sk l0).mono ?_
                rw [H1.out]
                rintro e w' ⟨rfl, rfl⟩
                go_wp2_with fail
                refine (firstElement_any S _ hpos hSl hT3).mono ?_
                rintro e w' ⟨rfl, rfl⟩
                go_wp2_with fail
                refine bodyPost_ret (v := .tuple #[.slice (some ⟨w3.heap.size, 0, none⟩) 3 3, .bool true]) (by simp [results, Tryd.results31, go_sem]) rfl ?_
                refine ⟨some ⟨w3.heap.size, 0, none⟩, 3, by rw [H1'.out, H2'.out]; rfl, ?_, bw3.alloc bw3.size _⟩
                rw [H1'.out]
                exact (OwnI.new w3 [(k : Int), (l : Int), ((lowN S : Nat) : Int)] (by simp)).mono bw3.size
          · obtain rfl : l = xs.length := by omega
            have hfin := Lib.hid (HL.out.a hp hlt)
            go_wp2_with fail
            go_roundw
            case rel => exact ⟨k + 1, by omega, by go_num, hfin.out, hb, hB⟩
            case measure => simp [intOf]; omega
      · obtain rfl : k = xs.length := by omega
        have ht := HA.out.no
        have H1 : Hid (onL (xs.length : Int) xs = []) := by simp only [Hid, onL, HR.out, ht]; rfl
        have H2 : Hid (onO (xs.length : Int) xs = false) := by simp only [Hid, onO, HR.out, ht]; rfl
        clear ht
        go_wp2_with fail
        refine bodyPost_ret (v := .tuple #[.slice none 0 0, .bool false]) (by simp [results, Tryd.results31, go_sem]) rfl ?_
        exact ⟨none, 0, by rw [H1.out, H2.out]; rfl, by rw [H1.out]; exact OwnI.nil _ _, hb⟩

theorem ret_2b {a b c d : Bool} (h : a = b) (h2 : c = d) : Ending.returned (.tuple #[.bool a, .bool c]) = .returned (.tuple #[.bool b, .bool d]) := by rw [h, h2]
theorem ret_2i {a b : Int} {c d : Bool} (h : a = b) (h2 : c = d) : Ending.returned (.tuple #[.int .i64 a, .bool c]) = .returned (.tuple #[.int .i64 b, .bool d]) := by rw [h, h2]

def wkB (n : Int) (xs : List Int) : Bool := ordB n xs && !onO n xs
theorem iWeak_any (n : Int) (a : Option Addr) (xs : List Int) (cap : Nat) (w : World) (hn : -9223372036854775808 ≤ n ∧ n ≤ 9223372036854775807) (hx : Rd w a xs) (hT : TabOk w) :
    Calls Tryd.prog 33 #[.agg #[.int .i64 n, .slice a xs.length cap]] w fun e w' => e = .returned (.tuple #[.bool (wkB n xs), .bool (ordB n xs)]) ∧ Below w.heap.size w w' := by
  have hx1 := hx.alloc (.cells #[.int .i64 n, .slice a xs.length cap] 28)
  go_enter Tryd.func33, Tryd.ntmps33
  go_wp2_with fail
  refine (iIsOrder_any _ _ _ _ _ hn hx1).mono ?_
  rintro e w1 ⟨rfl, hb1⟩
  have A1 : Box2 w1 w.heap.size (.int .i64 n) (.slice a xs.length cap) := (Box2.new w _ _ _).below hb1
  have bw1 : Below w.heap.size w w1 := Below.trans (by repeat (first | exact Below.refl _ _ | assumption | refine Below.alloc ?_ (by first | exact Nat.le_refl _ | (simp only [World.size_alloc, World.size_setCell, World.size_drew]; omega) | omega) _ | refine Below.setCell ?_ (by first | exact Nat.le_refl _ | (simp only [World.size_alloc, World.size_setCell, World.size_drew]; omega) | omega) _ | refine Below.drew ?_)) (hb1.mono (by first | (simp only [World.size_alloc, World.size_setCell, World.size_drew]; omega) | omega))
  have ⟨zA, cA, dA⟩ := A1
  clear hb1 hx1
  cases hr : ordB n xs
  · have H1 : Hid (wkB n xs = false) := by simp [Hid, wkB, hr]
    have H0 := Lib.hid hr
    clear hr
    go_wp2_with fail
    go_ret2
    exact ⟨ret_2b H1.out.symm H0.out.symm, bw1⟩
  · have H1 : Hid (wkB n xs = !onO n xs) := by simp [Hid, wkB, hr]
    have H0 := Lib.hid hr
    clear hr
    go_wp2_with fail
    refine (iOne_any _ _ _ _ _ hn (hx.below bw1) (hT.below bw1)).mono ?_
    rintro e w2 ⟨a2, c2, rfl, ho2, hb2⟩
    clear ho2
    go_wp2_with fail
    go_ret2
    exact ⟨ret_2b H1.out.symm H0.out.symm, bw1.trans (hb2.mono bw1.size)⟩

theorem weGood_any (n : Int) (a : Option Addr) (xs : List Int) (cap : Nat) (w : World) (hn : -9223372036854775808 ≤ n ∧ n ≤ 9223372036854775807) (hx : Rd w a xs) :
    Calls Tryd.prog 63 #[.agg #[.int .i64 n, .slice a xs.length cap]] w fun e w' => e = .returned (.bool (wkB n xs)) ∧ Below w.heap.size w w' := by
  have hx1 := hx.alloc (.cells #[.int .i64 n, .slice a xs.length cap] 28)
  go_enter Tryd.func63, Tryd.ntmps63
  go_wp2_with fail
  refine (sOne_any _ _ _ _ _ hn hx1).mono ?_
  rintro e w1 ⟨a1, c1, rfl, ho1, hb1⟩
  have A1 : Box2 w1 w.heap.size (.int .i64 n) (.slice a xs.length cap) := (Box2.new w _ _ _).below hb1
  have bw1 : Below w.heap.size w w1 := Below.trans (by repeat (first | exact Below.refl _ _ | assumption | refine Below.alloc ?_ (by first | exact Nat.le_refl _ | (simp only [World.size_alloc, World.size_setCell, World.size_drew]; omega) | omega) _ | refine Below.setCell ?_ (by first | exact Nat.le_refl _ | (simp only [World.size_alloc, World.size_setCell, World.size_drew]; omega) | omega) _ | refine Below.drew ?_)) (hb1.mono (by first | (simp only [World.size_alloc, World.size_setCell, World.size_drew]; omega) | omega))
  have ⟨zA, cA, dA⟩ := A1
  clear hb1 ho1
  go_wp2_with fail
  refine (orGood_any _ _ _ _ _ (hx.below bw1)).mono ?_
  rintro e w2 ⟨rfl, hb2⟩
  have bw2 := bw1.trans (hb2.mono bw1.size)
  clear zA cA dA hb2
  cases hr : ordB n xs
  · have HF : Hid (wkB n xs = false) := by simp [Hid, wkB, hr]
    clear hr
    go_wp2_with fail
    go_ret
    exact ⟨ret_bool HF.out.symm, bw2⟩
  · have HF : Hid (wkB n xs = !onO n xs) := by simp [Hid, wkB, hr]
    clear hr
    go_wp2_with fail
    go_ret
    exact ⟨ret_bool HF.out.symm, bw2⟩

set_option maxRecDepth 100000 in
theorem sWeakL_any (n : Int) (a : Option Addr) (xs : List Int) (cap : Nat) (w : World) (hn : -9223372036854775808 ≤ n ∧ n ≤ 9223372036854775807) (hx : Rd w a xs) :
    Calls Tryd.prog 34 #[.agg #[.int .i64 n, .slice a xs.length cap]] w fun e w' => ∃ a' cap', e = .returned (.tuple #[.slice a' (wkL n xs).length cap', .bool (wkB n xs)]) ∧ OwnI w' w.heap.size (.slice a' (wkL n xs).length cap') (wkL n xs) ∧ Below w.heap.size w w' := by
  obtain ⟨i0, hi, hz0, hz1, hz2⟩ := info_parts infoInt
  have hx1 := hx.alloc (.cells #[.int .i64 n, .slice a xs.length cap] 28)
  go_enter Tryd.func34, Tryd.ntmps34
  go_wp2_with fail
  refine (weGood_any _ _ _ _ _ hn hx1).mono ?_
  rintro e w1 ⟨rfl, hb1⟩
  have A1 : Box2 w1 w.heap.size (.int .i64 n) (.slice a xs.length cap) := (Box2.new w _ _ _).below hb1
  have bw1 : Below w.heap.size w w1 := Below.trans (by repeat (first | exact Below.refl _ _ | assumption | refine Below.alloc ?_ (by first | exact Nat.le_refl _ | (simp only [World.size_alloc, World.size_setCell, World.size_drew]; omega) | omega) _ | refine Below.setCell ?_ (by first | exact Nat.le_refl _ | (simp only [World.size_alloc, World.size_setCell, World.size_drew]; omega) | omega) _ | refine Below.drew ?_)) (hb1.mono (by first | (simp only [World.size_alloc, World.size_setCell, World.size_drew]; omega) | omega))
  clear hb1 hx1
  cases hv : wkB n xs
  · have HL : Hid (wkL n xs = []) := by simp only [Hid, wkL]; rw [if_neg (by rw [show (ordB n xs && !onO n xs) = wkB n xs from rfl, hv]; simp)]
    have HB := Lib.hid hv
    clear hv
    go_wp2_with fail
    refine bodyPost_ret (v := .tuple #[.slice none 0 0, .bool false]) (by simp [results, Tryd.results34, go_sem]) rfl ?_
    exact ⟨none, 0, by rw [HL.out, HB.out]; rfl, by rw [HL.out]; exact OwnI.nil _ _, bw1⟩
  · have hv2 : ordB n xs = true ∧ onO n xs = false := by simpa [wkB] using hv
    have HL : Hid (wkL n xs = fmap (fun i => ((wD xs i : Nat) : Int)) xs.length) := by simp only [Hid, wkL]; rw [if_pos (by rw [show (ordB n xs && !onO n xs) = wkB n xs from rfl, hv]), wk_lvb]
    have HB := Lib.hid hv
    have HO := Lib.hid hv2.1
    have HW := Lib.hid hv2.2
    have hp := ord_rel hv2.1
    have h10 : xs.length ≤ 10 := by have := hp.len; have := hp.n1; omega
    obtain rfl : n = (xs.length : Int) := hp.len.symm
    have HSM : Hid (∀ i, wD xs i ≤ 10) := fun i => wD_small HO.out i
    have ⟨zA, cA, dA⟩ := A1
    clear hv hv2
    go_wp2_with fail
    clear cA dA zA
    go_loopw [4, 5] (fun v i wr => ∃ k : Nat, k ≤ xs.length ∧ i = .int .i64 k ∧ OwnI wr w1.heap.size v (fmap (fun i => ((wD xs i : Nat) : Int)) k) ∧ Below w1.heap.size w1 wr) (fun _ i _ => xs.length - (intOf i).toNat)
    case atStart => exact ⟨0, Nat.zero_le _, rfl, OwnI.nil _ _, Below.refl _ _⟩
    case round =>
      obtain ⟨k, hk, rfl, hown, hb⟩ := hrel
      obtain ⟨av, cv, rfl⟩ := hown.form
      rw [fmap_len] at hown ⊢
      have bwr := bw1.trans (hb.mono bw1.size)
      have B := A1.below hb
      have ⟨zB, cB, dB⟩ := B
      by_cases hlt : k < xs.length
      · have k1 : (k : Int) < (xs.length : Int) := by omega
        obtain ⟨D, hD⟩ : ∃ D, D = wD xs k := ⟨_, rfl⟩
        have HD := Lib.hid hD
        have hcall := weHeight_any (xs.length : Int) a xs cap HO.out HW.out (wD xs k + 1) k wr (by omega) (hx.below bwr) hlt
        rw [← hD] at hcall
        have HC := Lib.hid hcall
        clear hcall hD
        go_wp2_with fail
        refine HC.out.mono ?_
        rintro e w4 ⟨rfl, hb4⟩
        have hown4 := hown.below hb4 (Nat.le_refl _)
        have b4 := hb.trans (hb4.mono hb.size)
        have hz4 := b4.size
        clear hown hb4
        go_wp2_with (at_builtin; refine wpList_append_own _ rfl _ _ 22 rfl w1.heap.size 3 i0 (.int .i64 0) 1 8 Tryd.underlying22 hi hz0 hz1 hz2 rfl (by decide) (.slice av k cv) k ((fmap (fun i => ((wD xs i : Nat) : Int)) k).map (Value.int .i64)) rfl (by have h := hown4.alloc (.cells #[.int .i64 (D : Int)] 3); unfold OwnI at h; rw [fmap_len] at h; exact h) ⟨w4.heap.size, 0, none⟩ 1 1 [.int .i64 (D : Int)] rfl rfl (cell_one_new _ _ _) (by intro u hu; simp at hu; subst hu; rfl) (by unfold maxLen; omega) (by omega) (by simp; omega) ?_)
        intro v' w3 hown3 hgrow _
        have hg2 := grown_alloc_set hgrow
        have hU := hown4.lt
        have bw3 := b4.trans (below_of_grown hg2 (fun c e => by have := hU c e; omega) b4.size)
        have o3 : OwnI w3 w1.heap.size v' (fmap (fun i => ((wD xs i : Nat) : Int)) (k + 1)) := by
          unfold OwnI
          rw [fmap_len, fmap_succ, List.map_append, ← HD.out]
          exact hown3
        clear hown3 hgrow hU
        go_wp2_with fail
        go_roundw
        case rel => exact ⟨k + 1, by omega, by go_num, o3, bw3⟩
        case measure => simp [intOf]; omega
      · obtain rfl : k = xs.length := by omega
        go_wp2_with fail
        refine bodyPost_ret (v := .tuple #[.slice av xs.length cv, .bool true]) (by simp [results, Tryd.results34, go_sem]) rfl ?_
        exact ⟨av, cv, by rw [HL.out, HB.out, fmap_len], by rw [HL.out, fmap_len]; exact hown.mono bw1.size, bwr⟩

theorem belowSets_any (n : Int) (a : Option Addr) (xs : List Int) (cap : Nat) (w : World) (hx : Rd w a xs) (hr : RelP n xs) :
    Calls Tryd.prog 49 #[.agg #[.int .i64 n, .slice a xs.length cap]] w fun e w' => ∃ a' cap', e = .returned (.slice a' xs.length cap') ∧ OwnI w' w.heap.size (.slice a' xs.length cap') (belows xs xs.length) ∧ Below w.heap.size w w' := by
  obtain ⟨i0, hi, hz0, hz1, hz2⟩ := info_parts infoInt
  have hn0 := hr.n0
  have hn1 := hr.n1
  obtain rfl : n = (xs.length : Int) := hr.len.symm
  have hn : xs.length ≤ 10 := by omega
  go_enter Tryd.func49, Tryd.ntmps49
  go_wp2_with (at_make; refine wpList_make_full _ rfl (.tmp 6) (.tmp 6) 22 rfl (w.heap.size + 1) 3 i0 (.int .i64 0) 1 Tryd.underlying22 hi hz0 hz1 .i64 .i64 _ _ xs.length rfl rfl rfl rfl (by rw [hz2]; omega) (by unfold maxLen; omega) (by simp) ?_; intro w1 hown hgrow)
  have hb0 : Below w.heap.size w w1 := ((Below.refl _ _).alloc (Nat.le_refl _) _).grown hgrow (by simp) (fun k h => by cases h)
  have hown0 := made_ints (fun i => ((belowTo xs i xs.length : Nat) : Int)) hown
  have B1 : Box2 w1 w.heap.size (.int .i64 (xs.length : Int)) (.slice a xs.length cap) := (Box2.new w _ _ _).kept hgrow (by simp)
  have hx1 : Rd w1 a xs := hx.below hb0
  clear hown hgrow
  simp only [World.size_alloc] at *
  have hz : w.heap.size + 1 < w1.heap.size := by
    have := (World.ownsRow.lt hown0 (w.heap.size + 1) rfl).2
    omega
  go_wp2_with fail
  go_loopw [10] (fun i wr => ∃ k : Nat, k ≤ xs.length ∧ i = .int .i64 k ∧ wr.ownsRow (w.heap.size + 1) 3 1 (.slice (some ⟨w.heap.size + 1, 0, none⟩) xs.length xs.length) xs.length ((fmap (fun i => ((belowTo xs i xs.length : Nat) : Int)) k ++ List.replicate (xs.length - k) (0:Int)).map (Value.int .i64)) ∧ Below w.heap.size w wr ∧ Box2 wr w.heap.size (.int .i64 (xs.length : Int)) (.slice a xs.length cap)) (fun i _ => xs.length - (intOf i).toNat)
  case atStart => exact ⟨0, Nat.zero_le _, rfl, hown0, hb0, B1⟩
  case round =>
    obtain ⟨k, hk, rfl, hown, hb, hB⟩ := hrel
    have ⟨zr, cr, dr⟩ := hB
    by_cases hlt : k < xs.length
    · go_wp2_with fail
      refine (belowSet_any _ _ _ _ _ _ (hx.below hb) hr (by omega)).mono ?_
      rintro e w2 ⟨rfl, hb2⟩
      have hown2 : w2.ownsRow (w.heap.size + 1) 3 1 (.slice (some ⟨w.heap.size + 1, 0, none⟩) xs.length xs.length) xs.length _ := World.ownsRow.kept hown (below_grown hb2 (Nat.le_refl _) none) (.inr (by simp [Value.ownBlock]))
      have hst := World.ownsRow.stored hown2 k (.int .i64 ((belowTo xs k xs.length : Nat) : Int))
      rw [fill_step (fun i => ((belowTo xs i xs.length : Nat) : Int)) xs.length k hlt] at hst
      have hcc := World.ownsRow.cellAt hown2 k (by omega)
      have hfr := World.ownsRow.frozenAt hown2 k
      have hcc' : ∃ u, w2.cell? ⟨w.heap.size + 1, k, none⟩ = some u := by
        rw [hcc]
        exact ⟨_, List.getElem?_eq_getElem (by simp [fmap_len]; omega)⟩
      obtain ⟨u, hu⟩ := hcc'
      have hB2 := hB.below hb2
      have hB3 := hB2.kept hst.2 (by simp)
      have hbw := hb.trans (hb2.mono hb.size)
      have Hst := Lib.hid hst
      clear hst hcc hown hown2 hb2
      go_wp2_with fail
      go_roundw
      case rel => exact ⟨k + 1, by omega, by go_num, Hst.out.1, hbw.setCell (by simp) _, hB3⟩
      case measure => simp [intOf]; omega
    · obtain rfl : k = xs.length := by omega
      go_wp2_with fail
      go_ret
      rw [fill_end] at hown
      refine ⟨_, _, rfl, OwnI.mono (B := w.heap.size + 1) ?_ (by omega), hb⟩
      show World.ownsRow _ _ _ _ _ _ _
      rw [belows_len]
      exact hown

def oc1 (s : Int) : Int := IntKind.u64.wrap (bits .and .u64 (s / 2) 6148914691236517205 + bits .and .u64 s 6148914691236517205)
def oc2 (s : Int) : Int := IntKind.u64.wrap (bits .and .u64 (oc1 s / 4) 3689348814741910323 + bits .and .u64 (oc1 s) 3689348814741910323)
def oc3 (s : Int) : Int := bits .and .u64 (IntKind.u64.wrap (oc2 s / 16 + oc2 s)) 1085102592571150095
def oc4 (s : Int) : Int := IntKind.u64.wrap (oc3 s + oc3 s / 256)
def oc5 (s : Int) : Int := IntKind.u64.wrap (oc4 s + oc4 s / 65536)
def oc6 (s : Int) : Int := IntKind.u64.wrap (oc5 s + oc5 s / 4294967296)
theorem oc_all : ∀ s : Fin 1024, bits .and .i64 (IntKind.i64.wrap (oc6 (s.val : Int))) 127 = ((elems s.val).length : Int) := by decide +kernel
theorem oc_eq {s : Nat} (h : s < 1024) : bits .and .i64 (wrap64 (oc6 (s : Int))) 127 = ((elems s).length : Int) := by
  rw [← IntWalk.i64_left]
  exact oc_all ⟨s, h⟩
theorem ones64_any (s : Nat) (w : World) (h1 : s < 1024) :
    Calls Tryd.prog 113 #[.int .u64 (s : Int)] w fun e w' => e = .returned (.int .i64 ((elems s).length : Int)) ∧ w = w' := by
  go_enter Tryd.func113, Tryd.ntmps113
  go_wp2_with fail
  go_ret
  refine ⟨?_, rfl⟩
  rw [← oc_eq h1]
  rfl
theorem ones_any (s : Nat) (w : World) (h1 : s < 1024) :
    Calls Tryd.prog 84 #[.int .u64 (s : Int)] w fun e w' => e = .returned (.int .i64 ((elems s).length : Int)) ∧ w = w' := by
  go_enter Tryd.func84, Tryd.ntmps84
  go_wp2_with fail
  refine (ones64_any s _ h1).mono ?_
  rintro e w' ⟨rfl, rfl⟩
  go_wp2_with fail
  go_ret
  exact ⟨rfl, rfl⟩
theorem countElements_any (s : Nat) (w : World) (h1 : s < 1024) :
    Calls Tryd.prog 55 #[.int .i64 (s : Int)] w fun e w' => e = .returned (.int .i64 ((elems s).length : Int)) ∧ w = w' := by
  have s1 : (s : Int) < 1024 := by omega
  go_enter Tryd.func55, Tryd.ntmps55
  go_wp2_with fail
  refine (ones_any s _ h1).mono ?_
  rintro e w' ⟨rfl, rfl⟩
  go_wp2_with fail
  go_ret
  exact ⟨rfl, rfl⟩



def Sh_laysSlF6_f51_ren : Go.Shelf.Ren := ⟨fun | 6 => 51 | 15 => 82 | 14 => 81 | 28 => 110 | 29 => 111 | 20 => 102 | 21 => 103 | 22 => 104 | 23 => 105 | 24 => 106 | 25 => 107 | 26 => 108 | 27 => 109 | 46 => 124 | 47 => 125 | 48 => 126 | 49 => 127 | 50 => 128 | 57 => 132 | n => n, fun | 22 => 22 | 24 => 3 | 25 => 47 | 3 => 3 | 39 => 58 | 0 => 0 | 53 => 71 | 55 => 73 | 4 => 4 | 46 => 78 | 45 => 77 | 50 => 65 | 5 => 5 | 9 => 9 | 66 => 89 | 70 => 93 | 76 => 97 | 77 => 98 | n => n, fun | n => n⟩
theorem Sh_laysSlF6_f51 : Go.Proofs.SlLaysF.n6 Tryd.prog Sh_laysSlF6_f51_ren := {
  mixed := by kernel_rfl
  f6 := ⟨Tryd.f51.name, by decide, Tryd.func51.trans (congrArg some (by kernel_rfl))⟩
  f14 := ⟨Tryd.f81.name, by decide, Tryd.func81.trans (congrArg some (by kernel_rfl))⟩
  f15 := Tryd.func82.trans (congrArg some (by kernel_rfl))
  f20 := ⟨Tryd.f102.name, by decide, Tryd.func102.trans (congrArg some (by kernel_rfl))⟩
  f21 := ⟨Tryd.f103.name, by decide, Tryd.func103.trans (congrArg some (by kernel_rfl))⟩
  f22 := ⟨Tryd.f104.name, by decide, Tryd.func104.trans (congrArg some (by kernel_rfl))⟩
  f23 := ⟨Tryd.f105.name, by decide, Tryd.func105.trans (congrArg some (by kernel_rfl))⟩
  f24 := ⟨Tryd.f106.name, by decide, Tryd.func106.trans (congrArg some (by kernel_rfl))⟩
  f25 := ⟨Tryd.f107.name, by decide, Tryd.func107.trans (congrArg some (by kernel_rfl))⟩
  f26 := ⟨Tryd.f108.name, by decide, Tryd.func108.trans (congrArg some (by kernel_rfl))⟩
  f27 := ⟨Tryd.f109.name, by decide, Tryd.func109.trans (congrArg some (by kernel_rfl))⟩
  f28 := Tryd.func110.trans (congrArg some (by kernel_rfl))
  f29 := Tryd.func111.trans (congrArg some (by kernel_rfl))
  f46 := ⟨Tryd.f124.name, by decide, Tryd.func124.trans (congrArg some (by kernel_rfl))⟩
  f47 := Tryd.func125.trans (congrArg some (by kernel_rfl))
  f48 := Tryd.func126.trans (congrArg some (by kernel_rfl))
  f49 := ⟨Tryd.f127.name, by decide, Tryd.func127.trans (congrArg some (by kernel_rfl))⟩
  f50 := ⟨Tryd.f128.name, by decide, Tryd.func128.trans (congrArg some (by kernel_rfl))⟩
  f57 := ⟨Tryd.f132.name, by decide, Tryd.func132.trans (congrArg some (by kernel_rfl))⟩
  t0 := Tryd.underlying0
  a0 := Tryd.isAgg0
  z0 := Tryd.sizeOf0
  v0 := Tryd.zeroValue0
  t3 := Tryd.underlying3
  a3 := Tryd.isAgg3
  z3 := Tryd.sizeOf3
  v3 := Tryd.zeroValue3
  t4 := Tryd.underlying4
  a4 := Tryd.isAgg4
  z4 := Tryd.sizeOf4
  v4 := Tryd.zeroValue4
  t5 := Tryd.underlying5
  a5 := Tryd.isAgg5
  z5 := Tryd.sizeOf5
  v5 := Tryd.zeroValue5
  t9 := Tryd.underlying9
  a9 := Tryd.isAgg9
  z9 := Tryd.sizeOf9
  v9 := Tryd.zeroValue9
  t22 := Tryd.underlying22
  a22 := Tryd.isAgg22
  z22 := Tryd.sizeOf22
  v22 := Tryd.zeroValue22
  a24 := Tryd.isAgg3
  z24 := Tryd.sizeOf3
  t25 := Tryd.underlying47
  a25 := Tryd.isAgg47
  z25 := Tryd.sizeOf47
  v25 := Tryd.zeroValue47
  t39 := Tryd.underlying58
  a39 := Tryd.isAgg58
  z39 := Tryd.sizeOf58
  v39 := Tryd.zeroValue58
  t45 := Tryd.underlying77
  a45 := Tryd.isAgg77
  z45 := Tryd.sizeOf77
  v45 := Tryd.zeroValue77
  t46 := Tryd.underlying78
  a46 := Tryd.isAgg78
  z46 := Tryd.sizeOf78
  v46 := Tryd.zeroValue78
  t50 := Tryd.underlying65
  a50 := Tryd.isAgg65
  z50 := Tryd.sizeOf65
  v50 := Tryd.zeroValue65
  t53 := Tryd.underlying71
  a53 := Tryd.isAgg71
  z53 := Tryd.sizeOf71
  v53 := Tryd.zeroValue71
  t55 := Tryd.underlying73
  a55 := Tryd.isAgg73
  z55 := Tryd.sizeOf73
  v55 := Tryd.zeroValue73
  t66 := Tryd.underlying89
  a66 := Tryd.isAgg89
  z66 := Tryd.sizeOf89
  v66 := Tryd.zeroValue89
  t70 := Tryd.underlying93
  a70 := Tryd.isAgg93
  z70 := Tryd.sizeOf93
  v70 := Tryd.zeroValue93
  t76 := Tryd.underlying97
  a76 := Tryd.isAgg97
  z76 := Tryd.sizeOf97
  v76 := Tryd.zeroValue97
  t77 := Tryd.underlying98
  a77 := Tryd.isAgg98
  z77 := Tryd.sizeOf98
  v77 := Tryd.zeroValue98 }

open Go.RowKit Go.Lib Go.Sort in
theorem Sh_slices_SortFunc_total {α : Type} [Inhabited α] (enc : α → Value) (h1 : OneCell enc) (cf : α → α → Int) (hO : SWO (ltOf cf)) (g : Nat) (cb : Array Value) (blk off cap : Nat) (d : Array α) (w : World) (eg : ∀ args w, (callFunc g args).run Tryd.prog w = .ok (.enter g args) w) (hcmp : CmpLays1 Tryd.prog g cb enc cf blk off d.size w) (hH : Holds enc w blk off d) (hblk : blk < w.heap.size) (hsz : d.size < 4611686018427387904) (hT : ∀ x y, (ltOf cf) x y = false → (ltOf cf) y x = false → x = y) :
    Calls Tryd.prog 51 #[.slice (some ⟨blk, off, none⟩) d.size cap, .func (.func g) #[] cb] w fun e w' =>
      e = .returned (.tuple #[]) ∧ ∃ n os, w' = sortWorld enc w blk off n (d.toList.mergeSort fun x y => !(ltOf cf) y x).toArray os := Any.slices_SortFunc_total Sh_laysSlF6_f51 enc h1 cf hO g cb blk off cap d w eg hcmp hH hblk hsz hT

def Sh_laysSlF06_f51_ren : Go.Shelf.Ren := ⟨fun | 6 => 51 | 15 => 82 | 14 => 81 | 28 => 110 | 29 => 111 | 20 => 102 | 21 => 103 | 22 => 104 | 23 => 105 | 24 => 106 | 25 => 107 | 26 => 108 | 27 => 109 | 46 => 124 | 47 => 125 | 48 => 126 | 49 => 127 | 50 => 128 | 57 => 132 | n => n, fun | 22 => 22 | 24 => 3 | 25 => 47 | 3 => 3 | 39 => 58 | 0 => 0 | 53 => 71 | 55 => 73 | 4 => 4 | 46 => 78 | 45 => 77 | 50 => 65 | 5 => 5 | 9 => 9 | 66 => 89 | 70 => 93 | 76 => 97 | 77 => 98 | n => n, fun | n => n⟩
theorem Sh_laysSlF06_f51 : Go.Proofs.SlLaysF0.n6 Tryd.prog Sh_laysSlF06_f51_ren := {
  mixed := by kernel_rfl
  f6 := ⟨Tryd.f51.name, by decide, Tryd.func51.trans (congrArg some (by kernel_rfl))⟩
  f14 := ⟨Tryd.f81.name, by decide, Tryd.func81.trans (congrArg some (by kernel_rfl))⟩
  f15 := Tryd.func82.trans (congrArg some (by kernel_rfl))
  f20 := ⟨Tryd.f102.name, by decide, Tryd.func102.trans (congrArg some (by kernel_rfl))⟩
  f21 := ⟨Tryd.f103.name, by decide, Tryd.func103.trans (congrArg some (by kernel_rfl))⟩
  f22 := ⟨Tryd.f104.name, by decide, Tryd.func104.trans (congrArg some (by kernel_rfl))⟩
  f23 := ⟨Tryd.f105.name, by decide, Tryd.func105.trans (congrArg some (by kernel_rfl))⟩
  f24 := ⟨Tryd.f106.name, by decide, Tryd.func106.trans (congrArg some (by kernel_rfl))⟩
  f25 := ⟨Tryd.f107.name, by decide, Tryd.func107.trans (congrArg some (by kernel_rfl))⟩
  f26 := ⟨Tryd.f108.name, by decide, Tryd.func108.trans (congrArg some (by kernel_rfl))⟩
  f27 := ⟨Tryd.f109.name, by decide, Tryd.func109.trans (congrArg some (by kernel_rfl))⟩
  f28 := Tryd.func110.trans (congrArg some (by kernel_rfl))
  f29 := Tryd.func111.trans (congrArg some (by kernel_rfl))
  f46 := ⟨Tryd.f124.name, by decide, Tryd.func124.trans (congrArg some (by kernel_rfl))⟩
  f47 := Tryd.func125.trans (congrArg some (by kernel_rfl))
  f48 := Tryd.func126.trans (congrArg some (by kernel_rfl))
  f49 := ⟨Tryd.f127.name, by decide, Tryd.func127.trans (congrArg some (by kernel_rfl))⟩
  f50 := ⟨Tryd.f128.name, by decide, Tryd.func128.trans (congrArg some (by kernel_rfl))⟩
  f57 := ⟨Tryd.f132.name, by decide, Tryd.func132.trans (congrArg some (by kernel_rfl))⟩
  t0 := Tryd.underlying0
  a0 := Tryd.isAgg0
  z0 := Tryd.sizeOf0
  v0 := Tryd.zeroValue0
  t3 := Tryd.underlying3
  a3 := Tryd.isAgg3
  z3 := Tryd.sizeOf3
  v3 := Tryd.zeroValue3
  t4 := Tryd.underlying4
  a4 := Tryd.isAgg4
  z4 := Tryd.sizeOf4
  v4 := Tryd.zeroValue4
  t5 := Tryd.underlying5
  a5 := Tryd.isAgg5
  z5 := Tryd.sizeOf5
  v5 := Tryd.zeroValue5
  t9 := Tryd.underlying9
  a9 := Tryd.isAgg9
  z9 := Tryd.sizeOf9
  v9 := Tryd.zeroValue9
  t22 := Tryd.underlying22
  a22 := Tryd.isAgg22
  z22 := Tryd.sizeOf22
  v22 := Tryd.zeroValue22
  t25 := Tryd.underlying47
  a25 := Tryd.isAgg47
  z25 := Tryd.sizeOf47
  v25 := Tryd.zeroValue47
  t39 := Tryd.underlying58
  a39 := Tryd.isAgg58
  z39 := Tryd.sizeOf58
  v39 := Tryd.zeroValue58
  t45 := Tryd.underlying77
  a45 := Tryd.isAgg77
  z45 := Tryd.sizeOf77
  v45 := Tryd.zeroValue77
  t46 := Tryd.underlying78
  a46 := Tryd.isAgg78
  z46 := Tryd.sizeOf78
  v46 := Tryd.zeroValue78
  t50 := Tryd.underlying65
  a50 := Tryd.isAgg65
  z50 := Tryd.sizeOf65
  v50 := Tryd.zeroValue65
  t53 := Tryd.underlying71
  a53 := Tryd.isAgg71
  z53 := Tryd.sizeOf71
  v53 := Tryd.zeroValue71
  t55 := Tryd.underlying73
  a55 := Tryd.isAgg73
  z55 := Tryd.sizeOf73
  v55 := Tryd.zeroValue73
  t66 := Tryd.underlying89
  a66 := Tryd.isAgg89
  z66 := Tryd.sizeOf89
  v66 := Tryd.zeroValue89
  t70 := Tryd.underlying93
  a70 := Tryd.isAgg93
  z70 := Tryd.sizeOf93
  v70 := Tryd.zeroValue93
  t76 := Tryd.underlying97
  a76 := Tryd.isAgg97
  z76 := Tryd.sizeOf97
  v76 := Tryd.zeroValue97
  t77 := Tryd.underlying98
  a77 := Tryd.isAgg98
  z77 := Tryd.sizeOf98
  v77 := Tryd.zeroValue98 }

open Go.RowKit Go.Lib Go.Sort in
theorem Sh_slices_SortFunc_none {α : Type} [Inhabited α] (p : Option Addr) (cap : Nat) (fv : Value) (w : World) :
    Calls Tryd.prog 51 #[.slice p 0 cap, fv] w fun e w' => e = .returned (.tuple #[]) ∧ w' = w := AnyF.slices_SortFunc_none Sh_laysSlF06_f51 p cap fv w

def Sh_lays122_ren : Go.Shelf.Ren := ⟨fun | 122 => 54 | 215 => 83 | n => n, fun | 3 => 3 | 4 => 4 | n => n, fun | n => n⟩
theorem Sh_lays122 : Go.Proofs.Lays.n122 Tryd.prog Sh_lays122_ren := {
  mixed := by kernel_rfl
  f122 := Tryd.func54.trans (congrArg some (by kernel_rfl))
  f215 := Tryd.func83.trans (congrArg some (by kernel_rfl))
  t3 := Tryd.underlying3
  a3 := Tryd.isAgg3
  z3 := Tryd.sizeOf3
  v3 := Tryd.zeroValue3
  t4 := Tryd.underlying4
  a4 := Tryd.isAgg4
  z4 := Tryd.sizeOf4
  v4 := Tryd.zeroValue4 }

open Go.RowKit in
theorem Sh_cmp_Compare_int (x y : Int) (w : World) :
    Calls Tryd.prog 54 #[.int .i64 x, .int .i64 y] w fun e w' => e = .returned (.int .i64 (Lib.compareInt x y)) ∧ w' = w := Any.cmp_Compare_int Sh_lays122 x y w

theorem ltCmp (x y : Int) : Go.Proofs.ltOf Go.Lib.compareInt x y = decide (x < y) := by
  unfold Go.Proofs.ltOf Go.Lib.compareInt
  by_cases h1 : x < y
  · simp [h1]
  · by_cases h2 : y < x <;> simp [h1, h2]
theorem swoCmp : Go.Sort.SWO (Go.Proofs.ltOf Go.Lib.compareInt) where
  irrefl x := by rw [ltCmp]; simp
  trans x y z h1 h2 := by rw [ltCmp] at *; simp at *; omega
  ntrans x y z h1 h2 := by rw [ltCmp] at *; simp at *; omega
theorem cmpLays (blk off size : Nat) (w : World) : Go.Proofs.CmpLays1 Tryd.prog 54 #[] (Value.int .i64) Go.Lib.compareInt blk off size w :=
  Go.Proofs.CmpReads.lays (fun _ _ _ _ x y => (Sh_cmp_Compare_int x y _).mono fun _ _ ⟨he, hw⟩ => ⟨he, 0, by rw [hw]; rfl⟩)
theorem srt_cmp (xs : List Int) : (xs.mergeSort fun x y => !(Go.Proofs.ltOf Go.Lib.compareInt) y x) = srt xs := by
  unfold srt
  congr 1
  funext x y
  rw [ltCmp]
  by_cases h : x ≤ y
  · simp [h]
  · simp [h]; omega
theorem sortFunc_own (a : Option Addr) (cap : Nat) (xs : List Int) (B : Nat) (w : World) (hl : xs.length ≤ 1048576) (ho : OwnI w B (.slice a xs.length cap) xs) :
    Calls Tryd.prog 51 #[.slice a xs.length cap, .func (.func 54) #[] #[]] w fun e w' => e = .returned (.tuple #[]) ∧ OwnI w' B (.slice a (srt xs).length cap) (srt xs) ∧ w.grownBy w' (Value.slice a xs.length cap).ownBlock := by
  rcases ho.2 with ⟨e0, h0⟩ | ⟨g, cap', cur, e0, hbase, hb, h1, h2, h3, h4⟩
  · have hx : xs = [] := List.length_eq_zero_iff.1 h0
    subst hx
    refine (Sh_slices_SortFunc_none (α := Int) a cap _ w).mono ?_
    rintro e w' ⟨rfl, rfl⟩
    exact ⟨rfl, by rw [show srt [] = [] from by simp [srt]]; exact ho, World.grownBy.refl _ _⟩
  · simp only [Value.slice.injEq] at e0
    obtain ⟨rfl, -, rfl⟩ := e0
    have hh := Go.holds_of_blockI (ss := xs) hb (by simpa using h4)
    have eg : ∀ args w, (callFunc 54 args).run Tryd.prog w = .ok (.enter 54 args) w := enters_of Tryd.func54 (by kernel_rfl) rfl
    have hcon := Sh_slices_SortFunc_total (Value.int .i64) (fun _ => rfl) Go.Lib.compareInt swoCmp 54 #[] g 0 cap xs.toArray w eg (cmpLays g 0 xs.toArray.size w) hh ((Array.getElem?_eq_some_iff.1 hb).1) (by simp; omega) (fun x y h1 h2 => by rw [ltCmp] at h1 h2; simp at h1 h2; omega)
    rw [show xs.toArray.size = xs.length by simp, show xs.toArray.toList = xs by simp, srt_cmp] at hcon
    refine hcon.mono ?_
    rintro e w' ⟨rfl, nn, os, rfl⟩
    refine ⟨rfl, ?_, Go.grownBy_sortedI _⟩
    have := Go.ownsRow_sortedI (n := nn) (os := os) (ss := xs) (ts := srt xs) (srt_len xs) hbase hb h1 h2 h3
    unfold OwnI
    rw [srt_len]
    exact this

theorem eqC_is (x y : Int) (bx : Nat) (w : World) (hb : w.cell? ⟨bx, 0, none⟩ = some (.func (.func 54) #[] #[])) :
    Calls Tryd.prog 91 #[.int .i64 x, .int .i64 y, .pointer (some ⟨bx, 0, none⟩)] w fun e w' => e = .returned (.bool (decide (x = y))) ∧ w = w' := by
  have hz : (Go.Lib.compareInt x y == 0) = decide (x = y) := by
    unfold Go.Lib.compareInt
    by_cases h1 : x < y
    · have : x ≠ y := by omega
      simp [h1, this]
    · by_cases h2 : x > y
      · have : x ≠ y := by omega
        simp [h1, h2, this]
      · have : x = y := by omega
        simp [this]
  have HC := Lib.hid (Sh_cmp_Compare_int x y w)
  obtain ⟨r, hr⟩ : ∃ r, r = Go.Lib.compareInt x y := ⟨_, rfl⟩
  rw [← hr] at hz HC
  have HZ := Lib.hid hz
  clear hr hz
  go_enter Tryd.func91, Tryd.ntmps91
  go_wp2_with (go_at_call 54; refine HC.out.mono ?_; rintro e w' ⟨rfl, rfl⟩)
  go_ret
  exact ⟨ret_bool HZ.out, rfl⟩

/-- a row of m integers of which the first k are filled, f 0 .. -/
def rowF (f : Nat → Int) (m k : Nat) : List Int := fmap f k ++ List.replicate (m - k) 0
theorem rowF_len (f : Nat → Int) {m k : Nat} (h : k ≤ m) : (rowF f m k).length = m := by simp [rowF, fmap_len]; omega
theorem rowF_set (f : Nat → Int) {m k : Nat} (h : k < m) : (rowF f m k).set k (f k) = rowF f m (k+1) := by
  apply List.ext_getElem?
  intro j
  rw [List.getElem?_set]
  by_cases hj : k = j
  · subst hj
    rw [if_pos rfl, if_pos (by rw [rowF_len f (by omega)]; exact h), rowF, List.getElem?_append_left (by rw [fmap_len]; omega)]
    simp [fmap]
  · simp only [hj, if_false, rowF, List.getElem?_append, fmap_len, List.getElem?_replicate]
    by_cases h1 : j < k
    · have h2 : j < k + 1 := by omega
      simp [h1, h2, fmap]
    · have h2 : ¬ j < k + 1 := by omega
      have h3 : j - k < m - k ↔ j - (k+1) < m - (k+1) := by omega
      simp [h1, h2, h3]
theorem rowF_zero (f : Nat → Int) {m k : Nat} (h : k < m) : (rowF f m k).set k 0 = rowF f m k := by
  apply List.ext_getElem?
  intro j
  rw [List.getElem?_set]
  by_cases hj : k = j
  · subst hj
    rw [if_pos rfl, if_pos (by rw [rowF_len f (by omega)]; exact h), rowF, List.getElem?_append_right (by rw [fmap_len]; omega)]
    rw [fmap_len, Nat.sub_self, List.getElem?_replicate, if_pos (by omega)]
  · simp [hj]
theorem rowF_end (f : Nat → Int) (m : Nat) : rowF f m m = fmap f m := by simp [rowF]
theorem made_row {w1 : World} {B : Nat} {v : Value} {m : Nat} (f : Nat → Int) (h : w1.ownsRow B 3 1 v m (madeCells (Value.int .i64 0).cells (m * 1)).toList) : OwnI w1 B v (rowF f m 0) := by
  unfold OwnI
  rw [rowF_len f (Nat.zero_le _)]
  simpa [Value.cells, toList_madeCells_one, fmap, rowF] using h

theorem OwnI.capLe {w : World} {B n cap : Nat} {a : Option Addr} {xs : List Int} (h : OwnI w B (.slice a n cap) xs) : n ≤ cap := by
  rcases h.2 with ⟨e, _⟩ | ⟨g, cap', cur, e, _, _, hc, _⟩
  · simp only [Value.slice.injEq] at e
    omega
  · simp only [Value.slice.injEq] at e
    omega
theorem Rd.take {w : World} {a : Option Addr} {xs : List Int} (h : Rd w a xs) (k : Nat) : Rd w a (xs.take k) :=
  ⟨Nat.le_trans (by rw [List.length_take]; exact Nat.min_le_right _ _) h.len, fun j hj => by
    have hj' : j < xs.length ∧ j < k := by rw [List.length_take] at hj; omega
    obtain ⟨b, off, e, hl, hc⟩ := h.cell j hj'.1
    refine ⟨b, off, e, hl, hc.trans ?_⟩
    simp [nth, List.getD_eq_getElem?_getD, List.getElem?_take, hj'.2]⟩

theorem ownsRow_cut2 {w : World} {B g n cap m : Nat} {t : TypeId} {xs : List Value} (h : w.ownsRow B t 1 (.slice (some ⟨g, 0, none⟩) n cap) n xs) (hm : m ≤ n) : w.ownsRow B t 1 (.slice (some ⟨g, 0, none⟩) m cap) m (xs.take m) := by
  have hl := h.1
  rcases h.2 with ⟨e0, _⟩ | ⟨g', cap', cur, e0, hbase, hb, h1, h2, h3, h4⟩
  · cases e0
  · simp only [Value.slice.injEq, Option.some.injEq, Addr.mk.injEq, and_true] at e0
    obtain ⟨rfl, -, rfl⟩ := e0
    refine ⟨by rw [List.length_take]; omega, .inr ⟨g, cap, cur, rfl, hbase, hb, by omega, h2, h3, ?_⟩⟩
    rw [← h4, List.take_take]
    congr 1
    omega
theorem OwnI.cutTo {w : World} {B g n cap m : Nat} {xs : List Int} (h : OwnI w B (.slice (some ⟨g, 0, none⟩) n cap) xs) (hn : n = xs.length) (hm : m ≤ n) : OwnI w B (.slice (some ⟨g, 0, none⟩) m cap) (xs.take m) := by
  subst hn
  have h1 := ownsRow_cut2 h hm
  unfold OwnI
  rw [List.length_take, show min m xs.length = m by omega, ← List.map_take] at *
  exact h1
theorem OwnI.past {B g m cap : Nat} {ys : List Int} (hm : m = ys.length) : ∀ (k : Nat) (w : World) (j : Nat), OwnI w B (.slice (some ⟨g, 0, none⟩) m cap) ys → m ≤ j → OwnI (w.setCells g j (List.replicate k (.int .i64 0))) B (.slice (some ⟨g, 0, none⟩) m cap) ys ∧ w.grownBy (w.setCells g j (List.replicate k (.int .i64 0))) (some g)
  | 0, w, j, h, _ => ⟨h, World.grownBy.refl _ _⟩
  | k+1, w, j, h, hj => by
    have h1 := h.put hm j 0
    rw [List.set_eq_of_length_le (by omega)] at h1
    have h2 := OwnI.past hm k (w.setCell ⟨g, j, none⟩ (.int .i64 0)) (j+1) h1.1 (by omega)
    rw [List.replicate_succ]
    exact ⟨h2.1, grown_trans h1.2 h2.2⟩
theorem compact_all {xs : List Int} (h : ∀ j, j < xs.length → Go.Lib.keeps xs.toArray j = true) : Go.Lib.compact xs = xs := by
  unfold Go.Lib.compact
  have e : xs.length = xs.toArray.size := by simp
  rw [Go.Lib.compactUpTo_all xs.toArray _ h, e, Go.Lib.range_map_get]
theorem arr_at (l : List Int) {j : Nat} (h : j < l.length) : l.toArray[j]! = nth l j := by
  rw [getElem!_pos l.toArray j (by simpa using h), nth_get l j h]; simp
set_option maxRecDepth 100000 in
set_option maxHeartbeats 1000000 in
theorem compactFn_own (a : Option Addr) (cap : Nat) (xs : List Int) (B bx : Nat) (w : World) (hl : xs.length ≤ 1048576) (ho : OwnI w B (.slice a xs.length cap) xs) (hbx : w.cell? ⟨bx, 0, none⟩ = some (.func (.func 54) #[] #[])) (hne : bx < B) :
    Calls Tryd.prog 90 #[.slice a xs.length cap, .func (.func 91) #[] #[.pointer (some ⟨bx, 0, none⟩)]] w fun e w' => e = .returned (.slice a (Go.Lib.compact xs).length cap) ∧ OwnI w' B (.slice a (Go.Lib.compact xs).length cap) (Go.Lib.compact xs) ∧ w.grownBy w' (Value.slice a xs.length cap).ownBlock := by
  by_cases h2 : xs.length < 2
  · have HC : Hid (Go.Lib.compact xs = xs) := compact_all (fun j hj => Go.Lib.keeps_lt_one _ j (by omega))
    go_enter Tryd.func90, Tryd.ntmps90
    go_wp2_with fail
    go_ret
    exact ⟨by rw [HC.out]; rfl, by rw [HC.out]; exact ho, World.grownBy.refl _ _⟩
  · obtain ⟨g, rfl, hg1, hg2⟩ := ho.head (by omega)
    have hbs := World.block_lt_of_cell? _ _ hbx
    have hcap := ho.capLe
    obtain ⟨n, hn⟩ : ∃ n, n = xs.length := ⟨_, rfl⟩
    rw [← hn] at ho hl h2 hcap ⊢
    have HN := Lib.hid hn
    have HO := Lib.hid ho
    clear hn ho
    go_enter Tryd.func90, Tryd.ntmps90
    go_wp2_with fail
    go_loopw [5] (fun i wr => ∃ k : Nat, 1 ≤ k ∧ k ≤ n ∧ i = .int .i64 k ∧ Below w.heap.size w wr ∧ ∀ j, j < k → Go.Lib.keeps xs.toArray j = true) (fun i _ => n - (intOf i).toNat)
    case atStart => exact ⟨1, Nat.le_refl _, by omega, rfl, Below.refl _ _, Go.Lib.keeps_lt_one _⟩
    case round =>
      obtain ⟨k, hk1, hk, rfl, hb, hall⟩ := hrel
      have hbxr := (hb.cell (p := ⟨bx, 0, none⟩) hbs).trans hbx
      have hor := HO.out.below hb (Nat.le_refl _)
      have HA := Lib.hid hall
      clear hall
      by_cases hlt : k < n
      · have ⟨c1, f1⟩ := hor.at' HN.out (i := k) (by rw [← HN.out]; exact hlt)
        have ⟨c0, f0⟩ := hor.at' HN.out (i := k - 1) (by rw [← HN.out]; omega)
        have k1 : (k : Int) < (n : Int) := by omega
        have hwk : IntKind.i64.wrap ((k : Int) - 1) = ((k - 1 : Nat) : Int) := by
          rw [i64_wrap, IntWalk.wrap64_in _ ⟨by omega, by omega⟩]; omega
        have km : ((k - 1 : Nat) : Int) < (n : Int) := by omega
        have hx1 := arr_at xs (j := k) (by rw [← HN.out]; exact hlt)
        have hx0 := arr_at xs (j := k - 1) (by rw [← HN.out]; omega)
        obtain ⟨x, hx⟩ : ∃ x, x = nth xs k := ⟨_, rfl⟩
        obtain ⟨y, hy⟩ : ∃ y, y = nth xs (k - 1) := ⟨_, rfl⟩
        rw [← hx] at c1 hx1
        rw [← hy] at c0 hx0
        have HX1 := Lib.hid hx1
        have HX0 := Lib.hid hx0
        clear hx hy hx1 hx0 f0 f1
        by_cases hdup : x = y
        · subst hdup
          go_wp2_with fail
          go_region_held3 (fun w' => w'.cell? ⟨g, k, none⟩ = some (.int .i64 x) ∧ w'.cell? ⟨g, k - 1, none⟩ = some (.int .i64 x) ∧ w'.cell? ⟨bx, 0, none⟩ = some (.func (.func 54) #[] #[]))
            (first | go_keep)
            (first | (go_at_call 91; refine (eqC_is _ _ bx _ (by simpa using hbxr)).mono ?_; rintro e w' ⟨rfl, rfl⟩))
          have hor1 := hor.below (Below.refl wr.heap.size wr).drew (Nat.le_refl _)
          have hgr : w.grownBy wr.drew (some g) := below_grown hb.drew (Nat.le_refl _) _
          have HI0 := Lib.hid (Go.Lib.CompInv.start HA.out (Go.Lib.keeps_neg (by omega) (by rw [HX1.out, HX0.out])))
          clear c0 c1 hor hb HX1 HX0 hwk km
          go_wp2_with fail
          go_loopw [5, 7] (fun i5 i7 wv => ∃ (kk k2 : Nat) (ys : List Int), i5 = .int .i64 kk ∧ i7 = .int .i64 k2 ∧ 1 ≤ k2 ∧ k + k2 ≤ n ∧ Hid (n = ys.length) ∧ OwnI wv B (.slice (some ⟨g, 0, none⟩) n cap) ys ∧ w.grownBy wv (some g) ∧ wv.cell? ⟨bx, 0, none⟩ = some (.func (.func 54) #[] #[]) ∧ kk < k + k2 ∧ Hid (Go.Lib.CompInv xs.toArray (k + k2) kk ys.toArray)) (fun _ i _ => n - k - (intOf i).toNat)
          case atStart => exact ⟨k, 1, xs, rfl, rfl, Nat.le_refl _, by omega, HN.out, hor1, hgr, by simpa using hbxr, by omega, HI0.out⟩
          case round =>
            clear hor1 hgr hbxr
            obtain ⟨kk, k2, ys, rfl, rfl, h1, hle, HY, hown, hgr, hbxr, hkk, HI⟩ := hrel
            by_cases hlt2 : k + k2 < n
            · have ⟨cm, fm⟩ := hown.at' HY.out (i := k + k2) (by rw [← HY.out]; exact hlt2)
              have ⟨cp, fp⟩ := hown.at' HY.out (i := k + k2 - 1) (by rw [← HY.out]; omega)
              have ⟨ck, fk⟩ := hown.at' HY.out (i := kk) (by rw [← HY.out]; omega)
              have hm := HI.out.high (k + k2) (by omega)
              have hp := HI.out.high (k + k2 - 1) (by omega)
              rw [arr_at ys (by rw [← HY.out]; omega)] at hm hp
              rw [hm] at cm
              rw [hp, show k + k2 - 1 = k + (k2 - 1) by omega] at cp
              have hwk : IntKind.i64.wrap ((k2 : Int) - 1) = ((k2 - 1 : Nat) : Int) := by
                rw [i64_wrap, IntWalk.wrap64_in _ ⟨by omega, by omega⟩]; omega
              have e1 : k + (k2 - 1) = k + k2 - 1 := by omega
              obtain ⟨u, hu⟩ : ∃ u, u = xs.toArray[k + k2]! := ⟨_, rfl⟩
              obtain ⟨v, hv⟩ : ∃ v, v = xs.toArray[k + k2 - 1]! := ⟨_, rfl⟩
              obtain ⟨old, hold⟩ : ∃ old, old = nth ys kk := ⟨_, rfl⟩
              rw [← hu] at cm
              rw [e1, ← hv] at cp
              rw [← hold] at ck
              have HU := Lib.hid hu
              have HV := Lib.hid hv
              have q1 : (k2 : Int) < (n : Int) - (k : Int) := by omega
              have q2 : ((k2 - 1 : Nat) : Int) < (n : Int) - (k : Int) := by omega
              have q3 : (kk : Int) < (n : Int) := by omega
              have q4 : (k2 : Int) < ((n - k : Nat) : Int) := by omega
              have q5 : ((k2 - 1 : Nat) : Int) < ((n - k : Nat) : Int) := by omega
              clear hu hv hold hm hp fm fp
              rw [← e1] at cp
              clear e1
              by_cases huv : u = v
              · subst huv
                go_wp2_with fail
                go_region_held3 (fun w' => w'.cell? ⟨g, k + k2, none⟩ = some (.int .i64 u) ∧ w'.cell? ⟨g, k + (k2 - 1), none⟩ = some (.int .i64 u) ∧ w'.cell? ⟨bx, 0, none⟩ = some (.func (.func 54) #[] #[]))
                  (first | go_keep)
                  (first | (go_at_call 91; refine (eqC_is _ _ bx _ (by simpa using hbxr)).mono ?_; rintro e w' ⟨rfl, rfl⟩))
                go_wp2_with fail
                go_roundw
                case rel => exact ⟨kk, k2 + 1, ys, rfl, by go_num, by omega, by omega, HY, hown.below (Below.refl wr.heap.size wr).drew (Nat.le_refl _), grown_trans hgr (below_grown (Below.refl wr.heap.size wr).drew (Nat.le_refl _) _), by simpa using hbxr, by omega, HI.out.skip (Go.Lib.keeps_neg (by omega) (by rw [← HU.out, ← HV.out]))⟩
                case measure => simp [intOf]; omega
              · have HUV := Lib.hid huv
                have hown1 := hown.below (Below.refl wr.heap.size wr).drew (Nat.le_refl _)
                have hput := hown1.put HY.out kk u
                have HP := Lib.hid hput
                clear hput hown1
                go_wp2_with fail
                go_region_held3 (fun w' => w'.cell? ⟨g, k + k2, none⟩ = some (.int .i64 u) ∧ w'.cell? ⟨g, k + (k2 - 1), none⟩ = some (.int .i64 v) ∧ w'.cell? ⟨bx, 0, none⟩ = some (.func (.func 54) #[] #[]))
                  (first | go_keep)
                  (first | (go_at_call 91; refine (eqC_is _ _ bx _ (by simpa using hbxr)).mono ?_; rintro e w' ⟨rfl, rfl⟩))
                go_wp2_with fail
                go_roundw
                case rel => exact ⟨kk + 1, k2 + 1, ys.set kk u, by go_num, by go_num, by omega, by omega, by rw [Hid, List.length_set]; exact HY.out, HP.out.1, grown_trans (grown_trans hgr (below_grown (Below.refl wr.heap.size wr).drew (Nat.le_refl _) _)) HP.out.2, HP.out.2.cell (by simpa using hbxr) (by simp; omega), by omega, by have h := HI.out.keep (m := k + k2) (by simp; rw [← HN.out]; exact hlt2) (Go.Lib.keeps_pos (by rw [← HU.out, ← HV.out]; exact HUV.out)); rw [← HU.out] at h; rw [Hid, show (ys.set kk u).toArray = ys.toArray.setIfInBounds kk u by simp]; exact h⟩
                case measure => simp [intOf]; omega
            · have hend : k + k2 = n := by omega
              have hcl : ∀ ty, (Builtin.clear_ #[22] ty #[.slice (some ⟨g, kk, none⟩) (n - kk) (cap - kk)]).run Tryd.prog wr = .ok (.tuple #[]) (wr.setCells g kk (List.replicate (n - kk) (.int .i64 0))) :=
                fun ty => Go.Lib.run_clear_slice wr _ 3 ty (.int .i64 0) Tryd.underlying22 (fun w => by first | exact Tryd.zeroValue3 w | kernel_rfl | rfl) rfl rfl g kk _ _ (by omega) (fun j hj => by rw [(hown.at' HY.out (i := kk + j) (by rw [← HY.out]; omega)).1]; rfl) (fun j hj => (hown.at' HY.out (i := kk + j) (by rw [← HY.out]; omega)).2)
              have hcut := hown.cutTo HY.out (m := kk) (by omega)
              have hlt3 : (ys.take kk).length = kk := by rw [List.length_take, ← HY.out]; omega
              have hpast := OwnI.past hlt3.symm (n - kk) wr kk hcut (Nat.le_refl _)
              have HE : Hid (Go.Lib.compact xs = ys.take kk) := by
                have hI := HI.out
                rw [hend] at hI
                have hs : xs.toArray.size = n := by simp; rw [← HN.out]
                unfold Go.Lib.compact
                rw [← HN.out]
                have hlc : (Go.Lib.compactUpTo xs.toArray n).length = kk := hI.len
                apply List.ext_getElem (by rw [hlc, hlt3])
                intro j q1 q2
                rw [hlt3] at q2
                have := hI.low j q2
                rw [List.getElem?_eq_getElem q1, arr_at ys (by rw [← HY.out]; omega)] at this
                rw [List.getElem_take, Option.some.inj this, nth_get]
              have HPA := Lib.hid hpast
              have HL3 := Lib.hid hlt3
              have k3 : (kk : Int) ≤ (n : Int) := by omega
              have k4 : (kk : Int) ≤ (cap : Int) := by omega
              clear hcut hpast hlt3 hend
              go_wp2_with fail
              go_ret
              refine ⟨by rw [HE.out, HL3.out]; rfl, ?_, grown_trans hgr HPA.out.2⟩
              rw [HE.out, HL3.out]
              exact HPA.out.1
        · have HD := Lib.hid hdup
          go_wp2_with fail
          go_region_held3 (fun w' => w'.cell? ⟨g, k, none⟩ = some (.int .i64 x) ∧ w'.cell? ⟨g, k - 1, none⟩ = some (.int .i64 y) ∧ w'.cell? ⟨bx, 0, none⟩ = some (.func (.func 54) #[] #[]))
            (first | go_keep)
            (first | (go_at_call 91; refine (eqC_is _ _ bx _ (by simpa using hbxr)).mono ?_; rintro e w' ⟨rfl, rfl⟩))
          go_wp2_with fail
          go_roundw
          case rel =>
            refine ⟨k + 1, by omega, by omega, by go_num, hb.drew, fun j hj => ?_⟩
            by_cases e : j = k
            · subst e
              exact Go.Lib.keeps_pos (by rw [HX1.out, HX0.out]; exact HD.out)
            · exact HA.out j (by omega)
          case measure => simp [intOf]; omega
      · obtain rfl : k = n := by omega
        have HC : Hid (Go.Lib.compact xs = xs) := compact_all (by rw [← HN.out]; exact HA.out)
        go_wp2_with fail
        go_ret
        exact ⟨by rw [HC.out, ← HN.out]; rfl, by rw [HC.out, ← HN.out]; exact hor, below_grown hb (Nat.le_refl _) _⟩

theorem cmp_lt0 (x y : Int) : (Go.Lib.compareInt x y < 0) ↔ x < y := by
  unfold Go.Lib.compareInt
  by_cases h1 : x < y
  · simp [h1]
  · by_cases h2 : x > y <;> simp [h1, h2]
/-- a number and some bool are handed back -/
def RetI (v : Int) (e : Ending) : Prop := ∃ b, e = .returned (.tuple #[.int .i64 v, .bool b])
set_option maxRecDepth 100000 in
theorem binS_any (a : Option Addr) (ys : List Int) (cap : Nat) (t : Int) (w : World) (hx : Rd w a ys) (hi : Inc ys) (hl : ys.length ≤ 1048576) :
    Calls Tryd.prog 92 #[.slice a ys.length cap, .int .i64 t, .func (.func 54) #[] #[]] w fun e w' => RetI ((putK ys t : Nat) : Int) e ∧ w = w' := by
  have HI := Lib.hid hi
  clear hi
  go_enter Tryd.func92, Tryd.ntmps92
  go_wp2_with fail
  go_loop [9, 10] (fun i j => ∃ p q : Nat, i = .int .i64 p ∧ j = .int .i64 q ∧ p ≤ q ∧ q ≤ ys.length ∧ (∀ s, s < p → nth ys s < t) ∧ (∀ s, q ≤ s → s < ys.length → t ≤ nth ys s)) (fun i j => (intOf j).toNat - (intOf i).toNat)
  case atStart => exact ⟨0, ys.length, rfl, rfl, Nat.zero_le _, Nat.le_refl _, fun s hs => by omega, fun s h1 h2 => by omega⟩
  case round =>
    obtain ⟨p, q, rfl, rfl, hpq, hq, hlo, hhi⟩ := hrel
    have HLO := Lib.hid hlo
    have HHI := Lib.hid hhi
    clear hlo hhi
    by_cases hlt : p < q
    · obtain ⟨h, hh⟩ : ∃ h, h = (p + q) / 2 := ⟨_, rfl⟩
      have h1 : p ≤ h := by omega
      have h2 : h < q := by omega
      have h3 : (h : Int) < (ys.length : Int) := by omega
      have hI : ((p : Int) + (q : Int)) / 2 = (h : Int) := by omega
      clear hh
      obtain ⟨b, off, rfl, hbl, hc⟩ := hx.cell h (by omega)
      obtain ⟨r, hr⟩ : ∃ r, r = Go.Lib.compareInt (nth ys h) t := ⟨_, rfl⟩
      have HR := Lib.hid hr
      have HC : Hid (∀ w, Calls Tryd.prog 54 #[.int .i64 (nth ys h), .int .i64 t] w fun e w' => e = .returned (.int .i64 r) ∧ w' = w) := fun w => by rw [hr]; exact Sh_cmp_Compare_int _ _ _
      have hneg := cmp_lt0 (nth ys h) t
      rw [← hr] at hneg
      clear hr
      by_cases hz : r < 0
      · have hv := Lib.hid (hneg.1 hz)
        clear hneg
        go_wp2_with (go_at_call 54; refine (HC.out _).mono ?_; rintro e w' ⟨rfl, rfl⟩)
        go_round
        case rel =>
          refine ⟨h + 1, q, by go_num, rfl, by omega, hq, fun s hs => ?_, HHI.out⟩
          by_cases e : s = h
          · rw [e]; exact hv.out
          · rw [nth_get _ _ (by omega)]
            have h5 : nth ys h < t := hv.out
            rw [nth_get _ _ (by omega)] at h5
            have := (List.pairwise_iff_getElem.1 HI.out) s h (by omega) (by omega) (by omega)
            omega
        case measure => simp [intOf]; omega
      · have hv : Hid (t ≤ nth ys h) := by simp only [Hid]; omega
        clear hneg
        go_wp2_with (go_at_call 54; refine (HC.out _).mono ?_; rintro e w' ⟨rfl, rfl⟩)
        go_round
        case rel =>
          refine ⟨p, h, rfl, rfl, h1, by omega, HLO.out, fun s hs1 hs2 => ?_⟩
          by_cases e : s = h
          · rw [e]; exact hv.out
          · rw [nth_get _ _ (by omega)]
            have h5 : t ≤ nth ys h := hv.out
            rw [nth_get _ _ (by omega)] at h5
            have := (List.pairwise_iff_getElem.1 HI.out) h s (by omega) (by omega) (by omega)
            omega
        case measure => simp [intOf]; omega
    · obtain rfl : p = q := by omega
      have HK : Hid (putK ys t = p) := putK_at ys t p hq HLO.out (fun h => HHI.out p (Nat.le_refl _) h)
      by_cases hn : p < ys.length
      · have h3 : (p : Int) < (ys.length : Int) := by omega
        obtain ⟨b, off, rfl, hbl, hc⟩ := hx.cell p hn
        go_wp2_with (go_at_call 54; refine (Sh_cmp_Compare_int _ _ _).mono ?_; rintro e w' ⟨rfl, rfl⟩)
        go_ret2
        exact ⟨⟨_, by rw [HK.out]; rfl⟩, rfl⟩
      · have h3 : ¬ (p : Int) < (ys.length : Int) := by omega
        go_wp2_with fail
        go_ret2
        exact ⟨⟨_, by rw [HK.out]; rfl⟩, rfl⟩

theorem wpList_append_none {P : Program} {w : World} {ops : Array Oper} {rest : List Oper} {o : Oper} {a : Act} {Q : Exit → Act → World → Prop} (hgd : o.guard = none) (s x : Operand) (t : TypeId)
    (ho : o.op = .call { callee := .builtin .append, args := #[s, x], argTypes := #[t, t] })
    (base : Nat) (e : TypeId) (i : TypeInfo) (size : Nat) (ht : P.underlying t = some (.slice e)) (hi : P.info? e = some i)
    (v : Value) (n c : Nat) (xs : List Value) (hs : a.eval s = v) (hown : w.ownsRow base e size v n xs) (hx : a.eval x = .slice none 0 c)
    (h : wpList P ops Q rest (a.put o.dst v) w) : wpList P ops Q (o :: rest) a w := by
  refine wpList_plain hgd fun K hK => ?_
  have hrun : (Builtin.append_ #[t, t] o.type #[v, .slice none 0 c]).run P w = .ok v w := by
    rcases hown.2 with ⟨rfl, rfl⟩ | ⟨g, cap, cur, rfl, _, _, hnc, _⟩
    · simp [Builtin.append_, run_underlying ht, sizeOf, typeInfo, hi, Builtin.lenOf, Builtin.firstCells]
    · simp [Builtin.append_, run_underlying ht, sizeOf, typeInfo, hi, Builtin.lenOf, Builtin.firstCells, hnc, storeCells]
  unfold Oper.wp
  simp [execOp, ho, resolve, invoke, builtin, hs, hx, hrun, Result.andThen]
  exact hK _ _ h
theorem rd_news {w : World} {ad : Addr} {xs : List Int} (hx : Rd w (some ad) xs) : ∀ j u, (xs.map (Value.int .i64))[j]? = some u → w.cell? (ad.add j) = some u := by
  intro j u hj
  rw [List.getElem?_map, Option.map_eq_some_iff] at hj
  obtain ⟨x, hx1, rfl⟩ := hj
  obtain ⟨hlt, e⟩ := List.getElem?_eq_some_iff.1 hx1
  obtain ⟨b, off, e1, _, hc⟩ := hx.cell j hlt
  simp only [Option.some.injEq] at e1
  subst e1
  rw [Addr.add_lit, hc, nth_get xs j hlt, e]
theorem ints_one (xs : List Int) : ∀ u ∈ xs.map (Value.int .i64), u.oneCell' = true := by
  intro u hu
  obtain ⟨x, _, rfl⟩ := List.mem_map.1 hu
  rfl

theorem sliceClone_any (a : Option Addr) (xs : List Int) (cap : Nat) (w : World) (hx : Rd w a xs) (hn : xs.length ≤ 1048576) :
    Calls Tryd.prog 89 #[.slice a xs.length cap] w fun e w' => ∃ a' cap', e = .returned (.slice a' xs.length cap') ∧ OwnI w' w.heap.size (.slice a' xs.length cap') xs ∧ Below w.heap.size w w' := by
  obtain ⟨i0, hi, hz0, hz1, hz2⟩ := info_parts infoInt
  have hown : (w.alloc (.cells #[] 3)).ownsRow w.heap.size 3 1 (.slice (some ⟨w.heap.size, 0, none⟩) 0 0) 0 [] := World.ownsRow_lit w #[] 0 (Nat.le_refl _) (by simp [maxLen]) (by simp)
  cases a with
  | none =>
    have h0 : xs = [] := by
      rcases xs with _ | ⟨x, t⟩
      · rfl
      · obtain ⟨b, off, e, _⟩ := hx.cell 0 (by simp)
        cases e
    subst h0
    have hq := Lib.run_eql_slice_nil (P := Tryd.prog) w 22 3 none 0 cap 0 0 Tryd.underlying22
    simp only [Option.isNone_none] at hq
    go_enter Tryd.func89, Tryd.ntmps89
    go_wp2_with fail
    go_ret
    exact ⟨none, 0, rfl, OwnI.nil _ _, Below.refl _ _⟩
  | some ad =>
    have hx1 := hx.alloc (.cells #[] 3)
    have hq := Lib.run_eql_slice_nil (P := Tryd.prog) w 22 3 (some ad) xs.length cap 0 0 Tryd.underlying22
    simp only [Option.isNone_some] at hq
    go_enter Tryd.func89, Tryd.ntmps89
    go_wp2_with (at_builtin; refine wpList_append_own _ rfl _ _ 22 rfl w.heap.size 3 i0 (.int .i64 0) 1 8 Tryd.underlying22 hi hz0 hz1 hz2 rfl (by decide) _ 0 [] rfl hown ad xs.length cap (xs.map (Value.int .i64)) rfl (by simp) ?c1 ?c2 ?c3 ?c4 ?c5 ?_)
    case c1 => exact rd_news hx1
    case c2 => exact ints_one xs
    case c3 => unfold maxLen; omega
    case c4 => omega
    case c5 => simp
    · intro v' w1 hown' hgrow _
      try simp only [Nat.zero_add, List.nil_append] at hown'
      have hb : Below w.heap.size w w1 := ((Below.refl _ _).alloc (Nat.le_refl _) _).grown hgrow (by simp) (fun b e => by simp [Value.ownBlock] at e; omega)
      obtain ⟨a', cap', rfl⟩ := OwnI.form (xs := xs) hown'
      have HO := Lib.hid hown'
      clear hown' hgrow hown
      go_wp2_with fail
      go_ret
      exact ⟨a', cap', rfl, HO.out, hb⟩

theorem bang (l : List Int) {j : Nat} (h : j < l.length) : l.toArray[j]! = nth l j := by
  rw [getElem!_pos l.toArray j (by simpa using h), nth_get l j h]; simp
theorem cu_inc {l : List Int} (h : l.Pairwise (· ≤ ·)) : ∀ m, m ≤ l.length → Inc (Go.Lib.compactUpTo l.toArray m) ∧ (∀ x, x ∈ Go.Lib.compactUpTo l.toArray m ↔ ∃ j, j < m ∧ nth l j = x)
  | 0, _ => ⟨List.Pairwise.nil, fun x => by simp [Go.Lib.compactUpTo]⟩
  | m+1, hm => by
    obtain ⟨h1, h2⟩ := cu_inc h m (by omega)
    have hle : ∀ i j, i ≤ j → j < l.length → nth l i ≤ nth l j := fun i j hij hj => by
      rw [nth_get _ _ (by omega), nth_get _ _ hj]
      rcases Nat.lt_or_eq_of_le hij with h3 | rfl
      · exact (List.pairwise_iff_getElem.1 h) i j (by omega) hj h3
      · exact Int.le_refl _
    rw [Go.Lib.compactUpTo_succ, bang l (by omega)]
    cases hk : Go.Lib.keeps l.toArray m
    · rw [if_neg (by simp), List.append_nil]
      refine ⟨h1, fun x => ?_⟩
      rw [h2]
      constructor
      · rintro ⟨j, hj, e⟩
        exact ⟨j, by omega, e⟩
      · rintro ⟨j, hj, e⟩
        by_cases e2 : j = m
        · subst e2
          simp only [Go.Lib.keeps, decide_eq_false_iff_not, not_or, ne_eq, Classical.not_not] at hk
          rw [bang l (by omega), bang l (by omega)] at hk
          exact ⟨j - 1, by omega, by rw [← hk.2]; exact e⟩
        · exact ⟨j, by omega, e⟩
    · rw [if_pos rfl]
      constructor
      · unfold Inc
        rw [List.pairwise_append]
        refine ⟨h1, List.pairwise_singleton _ _, fun a ha b hb => ?_⟩
        rw [List.mem_singleton] at hb
        subst hb
        obtain ⟨j, hj, rfl⟩ := (h2 a).1 ha
        simp only [Go.Lib.keeps, decide_eq_true_eq] at hk
        rw [bang l (by omega), bang l (by omega)] at hk
        have hne : nth l m ≠ nth l (m - 1) := hk.resolve_left (by omega)
        have := hle j (m - 1) (by omega) (by omega)
        have := hle (m - 1) m (by omega) (by omega)
        omega
      · intro x
        rw [List.mem_append, h2, List.mem_singleton]
        constructor
        · rintro (⟨j, hj, e⟩ | e)
          · exact ⟨j, by omega, e⟩
          · exact ⟨m, by omega, e.symm⟩
        · rintro ⟨j, hj, e⟩
          by_cases e2 : j = m
          · subst e2; exact .inr e.symm
          · exact .inl ⟨j, by omega, e⟩
theorem compact_inc {l : List Int} (h : l.Pairwise (· ≤ ·)) : Inc (Go.Lib.compact l) := (cu_inc h l.length (Nat.le_refl _)).1
theorem compact_mem {l : List Int} (h : l.Pairwise (· ≤ ·)) (x : Int) : x ∈ Go.Lib.compact l ↔ x ∈ l := by
  have := (cu_inc h l.length (Nat.le_refl _)).2 x
  rw [Go.Lib.compact, this]
  constructor
  · rintro ⟨j, hj, rfl⟩
    rw [nth_get _ _ hj]; exact List.getElem_mem _
  · intro hx
    obtain ⟨j, hj, rfl⟩ := List.getElem_of_mem hx
    exact ⟨j, hj, nth_get _ _ hj⟩

theorem below_grown_none {w w' : World} {B : Nat} (h : w.grownBy w' none) (hB : B ≤ w.heap.size) : Below B w w' :=
  below_of_grown (v := .slice none 0 0) h (fun b e => by simp [Value.ownBlock] at e) hB

theorem seen_compact (xs : List Int) : Go.Lib.compact (srt xs) = seenTo xs xs.length := by
  refine inc_ext (compact_inc (srt_le _)) (seenTo_inc xs _) (fun x => ?_)
  rw [compact_mem (srt_le _), srt_mem, seenTo_mem]
  constructor
  · intro h
    obtain ⟨j, hj, e⟩ := List.getElem_of_mem h
    exact ⟨j, hj, by rw [nth_get _ _ hj, e]⟩
  · rintro ⟨j, hj, rfl⟩
    rw [nth_get _ _ hj]; exact List.getElem_mem _
set_option maxRecDepth 100000 in
theorem levBy_any (a : Option Addr) (xs : List Int) (cap : Nat) (w : World) (hx : Rd w a xs) (hl : xs.length ≤ 1048576) :
    Calls Tryd.prog 65 #[.slice a xs.length cap, .func (.func 54) #[] #[]] w fun e w' => ∃ a' cap', e = .returned (.slice a' xs.length cap') ∧ OwnI w' w.heap.size (.slice a' xs.length cap') (lvbL xs) ∧ Below w.heap.size w w' := by
  obtain ⟨i0, hi, hz0, hz1, hz2⟩ := info_parts infoInt
  have hx1 := hx.alloc (.cells #[.func (.func 54) #[] #[]] 47)
  obtain ⟨n, hn⟩ : ∃ n, n = xs.length := ⟨_, rfl⟩
  have HN := Lib.hid hn
  go_enter Tryd.func65, Tryd.ntmps65
  clear hn
  go_wp2_with fail
  refine (sliceClone_any _ _ _ _ hx1 hl).mono ?_
  rintro e w1 ⟨a1, c1, rfl, ho1, hb1⟩
  have hbx : w1.cell? ⟨w.heap.size, 0, none⟩ = some (.func (.func 54) #[] #[]) := (hb1.cell (p := ⟨w.heap.size, 0, none⟩) (by simp)).trans (by simp)
  have hz1' : w.heap.size + 1 ≤ w1.heap.size := by have := hb1.size; simpa using this
  have bw1 : Below w.heap.size w w1 := Below.trans (by repeat (first | exact Below.refl _ _ | assumption | refine Below.alloc ?_ (by first | exact Nat.le_refl _ | (simp only [World.size_alloc, World.size_setCell, World.size_drew]; omega) | omega) _ | refine Below.setCell ?_ (by first | exact Nat.le_refl _ | (simp only [World.size_alloc, World.size_setCell, World.size_drew]; omega) | omega) _ | refine Below.drew ?_)) (hb1.mono (by first | (simp only [World.size_alloc, World.size_setCell, World.size_drew]; omega) | omega))
  have ho1' := ho1.mono (B' := w.heap.size + 1) (by simp)
  clear hb1 ho1 hx1
  go_wp2_with fail
  refine (sortFunc_own _ _ _ _ _ hl ho1').mono ?_
  rintro e w2 ⟨rfl, ho2, hg2⟩
  have hbx2 := hg2.cell hbx (ne_own (fun c e => by have := ho1'.lt c e; show c ≠ w.heap.size; omega))
  have bw2 := bw1.trans (below_of_grown hg2 (fun c e => by have := ho1'.lt c e; omega) bw1.size)
  have hz2' : w.heap.size + 1 ≤ w2.heap.size := Nat.le_trans hz1' hg2.size
  have hcf := compactFn_own a1 c1 (srt xs) (w.heap.size + 1) w.heap.size w2 (by rw [srt_len]; exact hl) ho2 hbx2 (by omega)
  rw [srt_len, seen_compact] at hcf
  have hyl := seenTo_len xs xs.length
  have hyi := seenTo_inc xs xs.length
  obtain ⟨ys, hys⟩ : ∃ ys, ys = seenTo xs xs.length := ⟨_, rfl⟩
  rw [← hys] at hcf hyl hyi
  have HYS := Lib.hid hys
  have HCF := Lib.hid hcf
  have hu2 := ho2.lt
  rw [srt_len] at hu2
  clear ho1' ho2 hg2 hbx hys hcf bw1 hz1'
  go_wp2_with fail
  refine HCF.out.mono ?_
  rintro e w3 ⟨rfl, ho3, hg3⟩
  have hbx3 := hg3.cell hbx2 (ne_own (fun c e => by have := hu2 c e; show c ≠ w.heap.size; omega))
  have bw3 := bw2.trans (below_of_grown hg3 (fun c e => by have := hu2 c e; omega) bw2.size)
  have hz3' : w.heap.size + 1 ≤ w3.heap.size := Nat.le_trans hz2' hg3.size
  have hr3 := ho3.rd
  clear ho3 hg3 hbx2 bw2 hz2' hu2 HCF
  go_wp2_with (at_make; refine wpList_make_full _ rfl (.tmp 18) (.tmp 18) 22 rfl w3.heap.size 3 i0 (.int .i64 0) 1 Tryd.underlying22 hi hz0 hz1 .i64 .i64 _ _ xs.length rfl rfl rfl rfl (by rw [hz2]; omega) (by unfold maxLen; omega) (Nat.le_refl _) ?_; intro w4 hown hgrow)
  have b4 : Below w3.heap.size w3 w4 := below_grown_none hgrow (Nat.le_refl _)
  have hown0 := made_row (lvbE xs) hown
  obtain ⟨g, hg⟩ : ∃ g, g = w3.heap.size := ⟨_, rfl⟩
  rw [← hg] at hown0 b4 ⊢
  have hgz : w.heap.size + 1 ≤ g := by omega
  have HG := Lib.hid hg
  clear hown hgrow hg
  go_wp2_with fail
  go_loopw [22] (fun i wr => ∃ k : Nat, k ≤ xs.length ∧ i = .int .i64 k ∧ OwnI wr g (.slice (some ⟨g, 0, none⟩) xs.length xs.length) (rowF (lvbE xs) xs.length k) ∧ Below g w3 wr) (fun i _ => xs.length - (intOf i).toNat)
  case atStart => exact ⟨0, Nat.zero_le _, rfl, hown0, b4⟩
  case round =>
    clear b4 hown0
    obtain ⟨k, hk, rfl, hown, hb⟩ := hrel
    have hb3 : Below w3.heap.size w3 wr := by rw [← HG.out]; exact hb
    have bwr := bw3.trans (hb3.mono bw3.size)
    by_cases hlt : k < xs.length
    · have k1 : (k : Int) < (xs.length : Int) := by omega
      obtain ⟨b1, off1, rfl, hbl1, hc1⟩ := (hx.below bwr).cell k hlt
      have hry := hr3.below hb3
      have hbxr := (hb3.cell (p := ⟨w.heap.size, 0, none⟩) (show w.heap.size < w3.heap.size by omega)).trans hbx3
      have ⟨ci, fi⟩ := hown.at' (by rw [rowF_len _ hk]) (i := k) (by rw [rowF_len _ hk]; exact hlt)
      have hput := hown.put (by rw [rowF_len _ hk]) k (lvbE xs k)
      rw [rowF_set _ hlt] at hput
      have HP := Lib.hid hput
      have HE : Hid (((putK ys (nth xs k) : Nat) : Int) = lvbE xs k) := by rw [Hid, HYS.out]; rfl
      clear hput
      go_wp2_with fail
      refine (binS_any _ _ _ _ _ hry hyi (by omega)).mono ?_
      rintro e w' ⟨⟨bb, rfl⟩, rfl⟩
      rw [HE.out]
      go_wp2_with fail
      go_roundw
      case rel => exact ⟨k + 1, by omega, by go_num, HP.out.1, hb.setCell (p := ⟨g, k, none⟩) (Nat.le_refl _) _⟩
      case measure => simp [intOf]; omega
    · obtain rfl : k = xs.length := by omega
      rw [rowF_end] at hown
      have ho : OwnI wr g (.slice (some ⟨g, 0, none⟩) xs.length xs.length) (lvbL xs) := hown
      clear hown
      go_wp2_with fail
      go_ret
      exact ⟨_, xs.length, rfl, ho.mono (by omega), bwr⟩

end Go.Proofs.YtnbgpelnihchoaaDoor.weakLevels
