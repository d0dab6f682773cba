/- A part of the proof of YtnbgpelnihchoaaDoorStairOf: contracts of functions. -/
import Derived.Test.YtnbgpelnihchoaaDoorRows
import Derived.WalkKit
import Derived.WalkSpells
import Derived.WalkLawsBesides
import Derived.Deep.QuietTactic
import Derived.BigQuiet
import Derived.ProofKit
import Derived.OpenShut
import Derived.ShutString
import Derived.ChangeOld
import Derived.Below
import Derived.Lib.SmallJoins
import Derived.Lib.Hide
import Derived.Deep.RegionHeld3
import Derived.LaidMore
import Derived.Stop.Joined
import Derived.WalkMore
import Derived.Shelf.Small.Bits
import Derived.Shelf.Small.Wraps
import Derived.Shelf.Strconv.Itoa0
import Derived.Shelf.Sort.Plain
import Derived.Shelf.Slices.Clone
import Derived.Shelf.Slices.SearchI
import Derived.Shelf.Slices.In.SortNone
import Derived.Shelf.SlicesE.Clone
import Derived.Shelf.SlSortCmp.Insertion
import Derived.Shelf.SlSortCmp.SiftDown1
import Derived.Shelf.SlSortCmp.HeapSort1
import Derived.Shelf.SlSortCmp.Insertion1
import Derived.Shelf.SlSortCmp.Median1
import Derived.Shelf.SlSortCmp.Pivot1
import Derived.Shelf.SlSortCmp.ReverseRange1
import Derived.Shelf.SlSortCmp.PartialInsertion1
import Derived.Shelf.SlSortCmp.PartitionEqual1
import Derived.Shelf.SlSortCmp.Partition1
import Derived.Shelf.SlSortCmp.Pdq1
import Derived.Shelf.SlSortCmp.Whole1
import Derived.Shelf.SlSortCmp.NoneTotal
import Derived.Sort.OwnSortedInts
import Derived.Test.YtnbgpelnihchoaaDoorTie
import Derived.Test.YtnbgpelnihchoaaDoorCards
import Derived.SevenTiedAt
namespace Go.Proofs.YtnbgpelnihchoaaDoor.stairOf
open Go Go.RowKit
set_option linter.unusedVariables false
set_option linter.unusedSimpArgs false
set_option maxHeartbeats 400000
open Go.Shelf


/-- a number of a list; a plain function, which the walk leaves alone -/
def nth (xs : List Int) (k : Nat) : Int := xs.getD k 0
theorem nth_get (xs : List Int) (k : Nat) (h : k < xs.length) : nth xs k = xs[k] := by simp [nth, h]
/-- the slice at an address reads as a list -/
structure Rd (w : World) (a : Option Addr) (xs : List Int) : Prop where
  len : xs.length ≤ 9223372036854775807
  cell : ∀ k, k < xs.length → ∃ b off, a = some ⟨b, off, none⟩ ∧ b < w.heap.size ∧ w.cell? ⟨b, off + k, none⟩ = some (.int .i64 (nth xs k))
theorem Rd.below {w w' : World} {a : Option Addr} {xs : List Int} (h : Rd w a xs) (hb : Below w.heap.size w w') : Rd w' a xs :=
  ⟨h.len, fun k hk => by
    obtain ⟨b, off, e, hl, hc⟩ := h.cell k hk
    exact ⟨b, off, e, Nat.lt_of_lt_of_le hl hb.size, (hb.cell (World.block_lt_of_cell? _ _ hc)).trans hc⟩⟩
theorem Rd.mid {w w1 w2 : World} {a : Option Addr} {xs : List Int} {B : Nat} (h : Rd w a xs) (hb : Below B w1 w2) (hB : w.heap.size ≤ B) (h1 : Rd w1 a xs) : Rd w2 a xs :=
  ⟨h.len, fun k hk => by
    obtain ⟨b, off, e, hl, hc⟩ := h.cell k hk
    obtain ⟨b', off', e', hl', hc'⟩ := h1.cell k hk
    rw [e] at e'
    simp only [Option.some.injEq, Addr.mk.injEq, and_true] at e'
    obtain ⟨rfl, rfl⟩ := e'
    exact ⟨b, off, e, Nat.lt_of_lt_of_le hl' hb.size, (hb.cell (by show b < B; omega)).trans hc'⟩⟩
theorem Rd.alloc {w : World} {a : Option Addr} {xs : List Int} (h : Rd w a xs) (o : Obj) : Rd (w.alloc o) a xs :=
  h.below ((Below.refl _ _).alloc (Nat.le_refl _) o)
theorem Rd.same {w w' : World} {a : Option Addr} {xs : List Int} (h : Rd w a xs) (hs : w.heap.size ≤ w'.heap.size)
    (hb : ∀ b off, a = some ⟨b, off, none⟩ → w'.heap[b]? = w.heap[b]?) : Rd w' a xs :=
  ⟨h.len, fun k hk => by
    obtain ⟨b, off, e, hl, hc⟩ := h.cell k hk
    exact ⟨b, off, e, Nat.lt_of_lt_of_le hl hs, (World.cell?_of_block (w := w) (a := ⟨b, off + k, none⟩) (hb b off e)).trans hc⟩⟩
/-- a slice value that owns the row of these integers, in a block from B on -/
def OwnI (w : World) (B : Nat) (v : Value) (xs : List Int) : Prop := w.ownsRow B 3 1 v xs.length (xs.map (Value.int .i64))
theorem OwnI.form {w : World} {B : Nat} {v : Value} {xs : List Int} (h : OwnI w B v xs) : ∃ a cap, v = .slice a xs.length cap := by
  rcases h.2 with ⟨rfl, h0⟩ | ⟨g, cap, cur, rfl, _⟩
  · exact ⟨none, 0, by rw [h0]⟩
  · exact ⟨_, _, rfl⟩
theorem OwnI.rd {w : World} {B n cap : Nat} {a : Option Addr} {xs : List Int} (h : OwnI w B (.slice a n cap) xs) : Rd w a xs := by
  rcases h.2 with ⟨e, h0⟩ | ⟨g, cap', cur, e, hb, hg, hn, hm, hs, ht⟩
  · exact ⟨by omega, fun k hk => by omega⟩
  · simp only [Value.slice.injEq] at e
    obtain ⟨rfl, rfl, rfl⟩ := e
    refine ⟨by unfold maxLen at hm; omega, fun k hk => ⟨g, 0, rfl, (Array.getElem?_eq_some_iff.1 hg).1, ?_⟩⟩
    have := World.ownsRow.cellAt h k (by omega)
    rw [Nat.zero_add, this]
    simp [nth, hk]
theorem OwnI.blk {w : World} {B n cap : Nat} {a : Option Addr} {xs : List Int} (h : OwnI w B (.slice a n cap) xs) : ∀ b off s, a = some ⟨b, off, s⟩ → B ≤ b ∧ b < w.heap.size := by
  intro b off s e
  subst e
  exact World.ownsRow.lt h b rfl
theorem OwnI.kept {w w' : World} {B : Nat} {v : Value} {xs : List Int} {row : Option Nat} (h : OwnI w B v xs) (hg : w.grownBy w' row) (hne : v.ownBlock = none ∨ v.ownBlock ≠ row) : OwnI w' B v xs := World.ownsRow.kept h hg hne
theorem OwnI.mono {w : World} {B B' : Nat} {v : Value} {xs : List Int} (h : OwnI w B v xs) (hB : B' ≤ B) : OwnI w B' v xs := by
  refine ⟨h.1, ?_⟩
  rcases h.2 with hn | ⟨g, cap, cur, e, hb, rest⟩
  · exact .inl hn
  · exact .inr ⟨g, cap, cur, e, by omega, rest⟩
theorem OwnI.below {w w' : World} {B B' : Nat} {v : Value} {xs : List Int} (h : OwnI w B v xs) (hb : Below B' w w') (hB : w.heap.size ≤ B') : OwnI w' B v xs := by
  refine ⟨h.1, ?_⟩
  rcases h.2 with hn | ⟨g, cap, cur, e, hb', hg, rest⟩
  · exact .inl hn
  · refine .inr ⟨g, cap, cur, e, hb', ?_, rest⟩
    rw [hb.block g (by have := (Array.getElem?_eq_some_iff.1 hg).1; omega)]
    exact hg
theorem ret_bool {a b : Bool} (h : a = b) : Ending.returned (.bool a) = .returned (.bool b) := by rw [h]
theorem ret_int {a b : Int} (h : a = b) : Ending.returned (.int .i64 a) = .returned (.int .i64 b) := by rw [h]
theorem val_int {a b : Int} (h : a = b) : Value.int .i64 a = .int .i64 b := by rw [h]
theorem grown_below {w w' : World} {g : Nat} (h : w.grownBy w' (some g)) (B : Nat) (hB : B ≤ g) (hs : B ≤ w.heap.size) : Below B w w' :=
  ⟨h.os, h.tape, h.output, h.size, fun k hk => h.block k (by omega) (by intro e; simp only [Option.some.injEq] at e; omega)⟩
theorem below_grown {w w' : World} {B : Nat} (h : Below B w w') (hB : w.heap.size ≤ B) (row : Option Nat) : w.grownBy w' row :=
  ⟨h.os, h.tape, h.output, h.size, fun k hk _ => h.block k (by omega)⟩
theorem bcell {W w1 : World} (hb : Below W.heap.size W w1) : (∀ b o, b < W.heap.size → w1.cell? ⟨b, o, none⟩ = W.cell? ⟨b, o, none⟩) ∧ (∀ b o, b < W.heap.size → w1.frozen? ⟨b, o, none⟩ = W.frozen? ⟨b, o, none⟩) :=
  ⟨fun b o h => hb.cell (p := ⟨b, o, none⟩) h, fun b o h => hb.frozen (p := ⟨b, o, none⟩) h⟩
theorem infoInt : (Tryd.prog.info? 3).map (fun i => (i.zero, i.size, i.bytes)) = some (some (.int .i64 0), 1, 8) := by kernel_rfl
theorem OwnI.setBelow {w : World} {B : Nat} {v : Value} {xs : List Int} (h : OwnI w B v xs) {p : Addr} (hp : p.block < B) (u : Value) : OwnI (w.setCell p u) B v xs := ownsRow_setCell_below h hp u
theorem OwnI.alloc {w : World} {B : Nat} {v : Value} {xs : List Int} (h : OwnI w B v xs) (o : Obj) : OwnI (w.alloc o) B v xs := h.below ((Below.refl _ _).alloc (Nat.le_refl _) o) (Nat.le_refl _)
theorem Below.mono' {B B' : Nat} {w w' : World} (h : Below B w w') (hB : B' ≤ B) : Below B' w w' := h.mono hB
/-- a block that holds two cells -/
def Box2 (w : World) (b : Nat) (u v : Value) : Prop := b < w.heap.size ∧ w.cell? ⟨b, 0, none⟩ = some u ∧ w.cell? ⟨b, 1, none⟩ = some v
theorem Box2.below {w w' : World} {b : Nat} {u v : Value} (h : Box2 w b u v) (hb : Below w.heap.size w w') : Box2 w' b u v :=
  ⟨Nat.lt_of_lt_of_le h.1 hb.size, (hb.cell (p := ⟨b, 0, none⟩) h.1).trans h.2.1, (hb.cell (p := ⟨b, 1, none⟩) h.1).trans h.2.2⟩
theorem Box2.new (w : World) (u v : Value) (t : TypeId) : Box2 (w.alloc (.cells #[u, v] t)) w.heap.size u v :=
  ⟨by simp, by simp, by simp⟩
theorem Box2.kept {w w' : World} {b : Nat} {u v : Value} {row : Option Nat} (h : Box2 w b u v) (hg : w.grownBy w' row) (hne : some b ≠ row) : Box2 w' b u v :=
  ⟨Nat.lt_of_lt_of_le h.1 hg.size, hg.cell h.2.1 hne, hg.cell h.2.2 hne⟩
theorem OwnI.lt {w : World} {B : Nat} {v : Value} {xs : List Int} (h : OwnI w B v xs) : ∀ b, v.ownBlock = some b → B ≤ b ∧ b < w.heap.size := World.ownsRow.lt h
theorem OwnI.cut {w : World} {B : Nat} {v : Value} {xs : List Int} (h : OwnI w B v xs) {U : Nat} (hU : w.heap.size ≤ U) : ∀ b, v.ownBlock = some b → B ≤ b ∧ b < U := fun b e => ⟨(h.lt b e).1, Nat.lt_of_lt_of_le (h.lt b e).2 hU⟩
/-- a block of two cells that may be written -/
def Var2 (w : World) (b : Nat) (u v : Value) : Prop := Box2 w b u v ∧ w.frozen? ⟨b, 0, none⟩ = false ∧ w.frozen? ⟨b, 1, none⟩ = false
theorem Var2.below {w w' : World} {b : Nat} {u v : Value} (h : Var2 w b u v) (hb : Below w.heap.size w w') : Var2 w' b u v :=
  ⟨h.1.below hb, (hb.frozen (p := ⟨b, 0, none⟩) h.1.1).trans h.2.1, (hb.frozen (p := ⟨b, 1, none⟩) h.1.1).trans h.2.2⟩
theorem Var2.new (w : World) (u v : Value) (t : TypeId) : Var2 (w.alloc (.cells #[u, v] t)) w.heap.size u v :=
  ⟨Box2.new w u v t, by simp, by simp⟩
theorem Var2.alloc {w : World} {b : Nat} {u v : Value} (h : Var2 w b u v) (o : Obj) : Var2 (w.alloc o) b u v := h.below ((Below.refl _ _).alloc (Nat.le_refl _) o)
theorem Var2.kept {w w' : World} {b : Nat} {u v : Value} {row : Option Nat} (h : Var2 w b u v) (hg : w.grownBy w' row) (hne : some b ≠ row) : Var2 w' b u v :=
  ⟨h.1.kept hg hne, (World.frozen?_of_block (w := w) (a := ⟨b, 0, none⟩) (hg.block b h.1.1 hne)).trans h.2.1, (World.frozen?_of_block (w := w) (a := ⟨b, 1, none⟩) (hg.block b h.1.1 hne)).trans h.2.2⟩
theorem Var2.set {w : World} {b : Nat} {u v : Value} (h : Var2 w b u v) (u' v' : Value) : Var2 ((w.setCell ⟨b, 0, none⟩ u').setCell ⟨b, 1, none⟩ v') b u' v' := by
  refine ⟨⟨by simpa using h.1.1, ?_, ?_⟩, by simpa using h.2.1, by simpa using h.2.2⟩
  · rw [World.cell?_setCell_other _ _ _ _ (by simp), World.cell?_setCell_same _ _ _ h.1.2.1]
  · rw [World.cell?_setCell_same _ _ _ (u := v) (by rw [World.cell?_setCell_other _ _ _ _ (by simp)]; exact h.1.2.2)]
theorem grown_set (w : World) (p : Addr) (u : Value) : w.grownBy (w.setCell p u) (some p.block) :=
  ⟨rfl, rfl, rfl, by simp, fun k hk hn => Below.heap_setCell w p u k (fun e => hn (by rw [e]))⟩
theorem Var2.set1 {w : World} {b : Nat} {u v : Value} (h : Var2 w b u v) (v' : Value) : Var2 (w.setCell ⟨b, 1, none⟩ v') b u v' := by
  refine ⟨⟨by simpa using h.1.1, ?_, ?_⟩, by simpa using h.2.1, by simpa using h.2.2⟩
  · rw [World.cell?_setCell_other _ _ _ _ (by simp)]; exact h.1.2.1
  · rw [World.cell?_setCell_same _ _ _ h.1.2.2]
theorem Box2.set {w : World} {b : Nat} {u v : Value} (h : Box2 w b u v) {p : Addr} (x : Value) (hne : b ≠ p.block) : Box2 (w.setCell p x) b u v :=
  h.kept (grown_set w p x) (by simpa using hne)
theorem Var2.other {w : World} {b : Nat} {u v : Value} (h : Var2 w b u v) {p : Addr} (x : Value) (hne : b ≠ p.block) : Var2 (w.setCell p x) b u v :=
  h.kept (grown_set w p x) (by simpa using hne)
theorem ne_own {v : Value} {b : Nat} (h : ∀ c, v.ownBlock = some c → c ≠ b) : some b ≠ v.ownBlock := fun e => h b e.symm rfl
theorem grown_alloc_set {w w1 : World} {r : Option Nat} {o : Obj} (h : (w.alloc o).grownBy w1 r) : w.grownBy w1 r :=
  ⟨h.os, h.tape, h.output, by have := h.size; simp at this; omega, fun k hk hn => (h.block k (by simp; omega) hn).trans (Below.heap_alloc w o k hk)⟩
theorem grown_trans {w w1 w2 : World} {r : Option Nat} (h1 : w.grownBy w1 r) (h2 : w1.grownBy w2 r) : w.grownBy w2 r :=
  ⟨h2.os.trans h1.os, h2.tape.trans h1.tape, h2.output.trans h1.output, Nat.le_trans h1.size h2.size, fun k hk hn => (h2.block k (by have := h1.size; omega) hn).trans (h1.block k hk hn)⟩
theorem OwnI.nil (w : World) (B : Nat) : OwnI w B (.slice none 0 0) [] := World.ownsRow_nil _ _ _ _
theorem below_of_grown {w w' : World} {v : Value} {B : Nat} (hg : w.grownBy w' v.ownBlock) (hB : ∀ b, v.ownBlock = some b → B ≤ b) (hs : B ≤ w.heap.size) : Below B w w' :=
  ⟨hg.os, hg.tape, hg.output, hg.size, fun k hk => hg.block k (by omega) (fun e => by have := hB k e.symm; omega)⟩

def szF (left : Int) (n : Nat) : Int := if left - n < 0 then -1 else left - n
theorem szIntS_any (a : Option Addr) (n cap : Nat) (l : Int) (w : World) (h0 : 0 ≤ l) (h1 : l ≤ 1048576) (hn : n ≤ 9223372036854775807) :
    Calls Tryd.prog 38 #[.slice a n cap, .int .i64 l] w fun e w' => e = .returned (.int .i64 (szF l n)) ∧ w = w' := by
  by_cases h : l - n < 0
  · go_enter Tryd.func38, Tryd.ntmps38
    go_wp2
    go_ret
    exact ⟨ret_int (by simp [szF, h]), rfl⟩
  · go_enter Tryd.func38, Tryd.ntmps38
    go_wp2
    go_ret
    exact ⟨ret_int (by rw [szF, if_neg (by omega)]), rfl⟩

theorem szOrder_any (n : Int) (a : Option Addr) (len cap : Nat) (l : Int) (w : World) (h0 : 0 ≤ l) (h1 : l ≤ 1048576) (hn : len ≤ 9223372036854775807) :
    Calls Tryd.prog 12 #[.agg #[.int .i64 n, .slice a len cap], .int .i64 l] w fun e w' => e = .returned (.int .i64 (szF l len)) ∧ Below w.heap.size w w' := by
  by_cases h : l - len < 0
  · have hs : szF l len = -1 := by simp [szF, h]
    rw [hs]
    have HS := Lib.hid hs
    clear hs
    go_enter Tryd.func12, Tryd.ntmps12
    go_wp2_with (go_at_call 38; refine (szIntS_any _ _ _ _ _ h0 h1 hn).mono ?_; rintro e w' ⟨rfl, rfl⟩; rw [HS.out])
    go_ret
    exact ⟨rfl, (Below.refl _ _).alloc (Nat.le_refl _) _⟩
  · have hs : szF l len = l - len := by rw [szF, if_neg (by omega)]
    have hp : 0 ≤ szF l len := by omega
    clear hs
    go_enter Tryd.func12, Tryd.ntmps12
    go_wp2_with (go_at_call 38; refine (szIntS_any _ _ _ _ _ h0 h1 hn).mono ?_; rintro e w' ⟨rfl, rfl⟩)
    go_ret
    exact ⟨rfl, (Below.refl _ _).alloc (Nat.le_refl _) _⟩

theorem szOrder_ok {n : Int} {a : Option Addr} {len cap : Nat} {l : Int} {w : World} (h1 : l ≤ 1048576) (h : len ≤ l) :
    Calls Tryd.prog 12 #[.agg #[.int .i64 n, .slice a len cap], .int .i64 l] w fun e w' => e = .returned (.int .i64 (l - len)) ∧ Below w.heap.size w w' :=
  (szOrder_any n a len cap l w (by omega) h1 (by omega)).mono (fun e w' hh => ⟨by rw [hh.1, szF, if_neg (by omega)], hh.2⟩)
theorem szOrder_no {n : Int} {a : Option Addr} {len cap : Nat} {l : Int} {w : World} (h0 : 0 ≤ l) (h1 : l ≤ 1048576) (h : l < len) (hl : len ≤ 9223372036854775807) :
    Calls Tryd.prog 12 #[.agg #[.int .i64 n, .slice a len cap], .int .i64 l] w fun e w' => e = .returned (.int .i64 (-1)) ∧ Below w.heap.size w w' :=
  (szOrder_any n a len cap l w h0 h1 hl).mono (fun e w' hh => ⟨by rw [hh.1, szF, if_pos (by omega)], hh.2⟩)

theorem set_step (xs : List Int) (k : Nat) (h : k < xs.length) :
    ((xs.take k ++ List.replicate (xs.length - k) (0:Int)).map (Value.int .i64)).set k (.int .i64 (nth xs k)) = (xs.take (k+1) ++ List.replicate (xs.length - (k+1)) (0:Int)).map (Value.int .i64) := by
  apply List.ext_getElem?
  intro j
  have hk : (xs.take k).length = k := by simp; omega
  have hk1 : (xs.take (k+1)).length = k+1 := by simp; omega
  rw [List.getElem?_set]
  by_cases hj : k = j
  · subst hj
    rw [if_pos rfl, if_pos (by simp; omega), List.getElem?_map, List.getElem?_append_left (by omega)]
    simp [nth, h]
  · simp only [hj, if_false, List.getElem?_map, List.getElem?_append, hk, hk1, List.getElem?_take, List.getElem?_replicate]
    by_cases h1 : j < k
    · have h2 : j < k + 1 := by omega
      simp [h1, h2]
    · have h2 : ¬ j < k + 1 := by omega
      have h3 : j - k < xs.length - k ↔ j - (k+1) < xs.length - (k+1) := by omega
      simp [h1, h2, h3]
theorem toIntS_any (a : Option Addr) (xs : List Int) (cap : Nat) (w : World) (hx : Rd w a xs) (hn : xs.length ≤ 1048576) :
    Calls Tryd.prog 28 #[.slice a xs.length cap] w fun e w' => ∃ a' cap', e = .returned (.slice a' xs.length cap') ∧ OwnI w' w.heap.size (.slice a' xs.length cap') xs ∧ Below w.heap.size w w' := by
  obtain ⟨i0, hi, hz0, hz1, hz2⟩ := info_parts infoInt
  go_enter Tryd.func28, Tryd.ntmps28
  go_wp2_with (at_make; refine wpList_make_full _ rfl (.tmp 6) (.tmp 6) 22 rfl w.heap.size 3 i0 (.int .i64 0) 1 Tryd.underlying22 hi hz0 hz1 .i64 .i64 _ _ xs.length rfl rfl rfl rfl (by rw [hz2]; omega) (by unfold maxLen; omega) (Nat.le_refl _) ?_; intro w1 hown hgrow)
  have hb0 : Below w.heap.size w w1 := (Below.refl _ _).grown hgrow (Nat.le_refl _) (fun k h => by cases h)
  have hown0 : w1.ownsRow w.heap.size 3 1 (.slice (some ⟨w.heap.size, 0, none⟩) xs.length xs.length) xs.length ((xs.take 0 ++ List.replicate (xs.length - 0) (0:Int)).map (Value.int .i64)) := by
    simpa [Value.cells, toList_madeCells_one] using hown
  clear hown hgrow
  have hz : w.heap.size < w1.heap.size := by
    have := (World.ownsRow.lt hown0 w.heap.size rfl).2
    omega
  go_loopw [4] (fun i wr => ∃ k : Nat, k ≤ xs.length ∧ i = .int .i64 k ∧ wr.ownsRow w.heap.size 3 1 (.slice (some ⟨w.heap.size, 0, none⟩) xs.length xs.length) xs.length ((xs.take k ++ List.replicate (xs.length - k) (0:Int)).map (Value.int .i64)) ∧ Below w.heap.size w wr) (fun i _ => xs.length - (intOf i).toNat)
  case atStart => exact ⟨0, Nat.zero_le _, rfl, hown0, hb0⟩
  case round =>
    obtain ⟨k, hk, rfl, hown, hb⟩ := hrel
    by_cases hlt : k < xs.length
    · obtain ⟨b, off, rfl, hbl, hc⟩ := hx.cell k hlt
      have hc1 := (hb.cell (p := ⟨b, off + k, none⟩) hbl).trans hc
      have hst := World.ownsRow.stored hown k (.int .i64 (nth xs k))
      rw [set_step xs k hlt] at hst
      have hcc := World.ownsRow.cellAt hown k (by omega)
      have hfr := World.ownsRow.frozenAt hown k
      have hcc' : ∃ u, wr.cell? ⟨w.heap.size, k, none⟩ = some u := by
        rw [hcc]
        exact ⟨_, List.getElem?_eq_getElem (by simp; omega)⟩
      obtain ⟨u, hu⟩ := hcc'
      have Hst := Lib.hid hst
      clear hst hcc hown hc
      go_wp2
      go_roundw
      case rel => exact ⟨k + 1, by omega, by go_num, Hst.out.1, hb.setCell (Nat.le_refl _) _⟩
      case measure => simp [intOf]; omega
    · obtain rfl : k = xs.length := by omega
      go_wp2
      go_ret
      refine ⟨_, _, rfl, ?_, hb⟩
      have : xs.take xs.length ++ List.replicate (xs.length - xs.length) (0:Int) = xs := by simp
      rw [this] at hown
      exact hown

theorem toOrder_any (n : Int) (a : Option Addr) (xs : List Int) (cap : Nat) (w : World) (hx : Rd w a xs) (hn : xs.length ≤ 1048576) :
    Calls Tryd.prog 14 #[.agg #[.int .i64 n, .slice a xs.length cap]] w fun e w' => ∃ a' cap', e = .returned (.agg #[.int .i64 n, .slice a' xs.length cap']) ∧ OwnI w' w.heap.size (.slice a' xs.length cap') xs ∧ Below w.heap.size w w' := by
  go_enter Tryd.func14, Tryd.ntmps14
  go_wp2_with fail
  refine (toIntS_any _ _ _ _ (hx.below (by repeat (first | exact Below.refl _ _ | assumption | refine Below.alloc ?_ (by first | exact Nat.le_refl _ | (simp only [World.size_alloc, World.size_setCell, World.size_drew]; omega) | omega) _ | refine Below.setCell ?_ (by first | exact Nat.le_refl _ | (simp only [World.size_alloc, World.size_setCell, World.size_drew]; omega) | omega) _ | refine Below.drew ?_))) hn).mono ?_
  rintro e w1 ⟨a', cap', rfl, hown, hb⟩
  obtain ⟨hc, hf⟩ := bcell hb
  have hz := hb.size
  simp only [World.size_alloc, World.size_setCell] at hz
  go_wp2
  have hown' := ((((hown.setBelow (p := ⟨w.heap.size + 1 + 1, 1, none⟩) (by first | (simp only [World.size_alloc, World.size_setCell, World.size_drew]; omega) | omega) (.slice a' xs.length cap')).setBelow (p := ⟨w.heap.size + 1, 0, none⟩) (by first | (simp only [World.size_alloc, World.size_setCell, World.size_drew]; omega) | omega) (.int .i64 n)).setBelow (p := ⟨w.heap.size + 1, 1, none⟩) (by first | (simp only [World.size_alloc, World.size_setCell, World.size_drew]; omega) | omega) (.slice a' xs.length cap'))).mono (B' := w.heap.size) (by first | (simp only [World.size_alloc, World.size_setCell, World.size_drew]; omega) | omega)
  have hb' : Below w.heap.size w w1 := Below.trans (by repeat (first | exact Below.refl _ _ | assumption | refine Below.alloc ?_ (by first | exact Nat.le_refl _ | (simp only [World.size_alloc, World.size_setCell, World.size_drew]; omega) | omega) _ | refine Below.setCell ?_ (by first | exact Nat.le_refl _ | (simp only [World.size_alloc, World.size_setCell, World.size_drew]; omega) | omega) _ | refine Below.drew ?_)) (hb.mono (by first | (simp only [World.size_alloc, World.size_setCell, World.size_drew]; omega) | omega))
  refine bodyPost_ret (v := .agg #[.int .i64 n, .slice a' xs.length cap']) (by simp [results, Tryd.results14, go_sem, hc]) rfl ⟨a', cap', rfl, hown', ?_⟩
  exact ((hb'.setCell (by first | exact Nat.le_refl _ | (simp only [World.size_alloc, World.size_setCell, World.size_drew]; omega) | omega) _).setCell (by first | exact Nat.le_refl _ | (simp only [World.size_alloc, World.size_setCell, World.size_drew]; omega) | omega) _).setCell (by first | exact Nat.le_refl _ | (simp only [World.size_alloc, World.size_setCell, World.size_drew]; omega) | omega) _

def eqL (xs ys : List Int) : Bool := decide (xs = ys)
theorem eqIntS_any (a b : Option Addr) (xs ys : List Int) (ca cb : Nat) (w : World) (hx : Rd w a xs) (hy : Rd w b ys) :
    Calls Tryd.prog 16 #[.slice a xs.length ca, .slice b ys.length cb] w fun e w' => e = .returned (.bool (eqL xs ys)) ∧ Below w.heap.size w w' := by
  have hlx := hx.len
  have hly := hy.len
  by_cases hl : xs.length = ys.length
  · have hl' : ((xs.length : Int) != (ys.length : Int)) = false := by simp [hl]
    go_enter Tryd.func16, Tryd.ntmps16
    have HL := Lib.hid hl
    clear hl
    go_wp2_with fail
    go_loopw [5] (fun i wr => ∃ k : Nat, k ≤ xs.length ∧ i = .int .i64 k ∧ xs.take k = ys.take k ∧ Below w.heap.size w wr) (fun i _ => xs.length - (intOf i).toNat)
    case atStart => exact ⟨0, Nat.zero_le _, rfl, rfl, Below.refl _ _⟩
    case round =>
      obtain ⟨k, hk, rfl, htk, hb⟩ := hrel
      have HT := Lib.hid htk
      clear htk
      by_cases hlt : k < xs.length
      · have hlt' : k < ys.length := by rw [← HL.out]; exact hlt
        obtain ⟨b1, o1, rfl, hb1, hc1⟩ := (hx.below hb).cell k hlt
        obtain ⟨b2, o2, rfl, hb2, hc2⟩ := (hy.below hb).cell k hlt'
        by_cases he : nth xs k = nth ys k
        · have he' : (nth xs k != nth ys k) = false := by simp [he]
          have HE := Lib.hid he
          clear he
          go_wp2_with fail
          go_quiet (fail)
          go_wp2_with fail
          go_roundw
          case rel =>
            refine ⟨k + 1, by omega, by go_num, ?_, by exact hb.trans (Joins.below_draws _ _ _)⟩
            rw [List.take_succ_eq_append_getElem hlt, List.take_succ_eq_append_getElem hlt', HT.out, ← nth_get, ← nth_get, HE.out]
          case measure => simp [intOf]; omega
        · have he' : (nth xs k != nth ys k) = true := by simp [he]
          have hne : eqL xs ys = false := by
            simp only [eqL, decide_eq_false_iff_not]
            intro e
            subst e
            exact he rfl
          have HN := Lib.hid hne
          clear he hne
          go_wp2_with fail
          go_quiet (fail)
          go_wp2_with fail
          go_ret
          exact ⟨ret_bool HN.out.symm, hb.trans (Joins.below_draws _ _ _)⟩
      · go_wp2_with fail
        go_ret
        refine ⟨ret_bool ?_, hb⟩
        have h1 := HT.out
        rw [List.take_of_length_le (by omega), List.take_of_length_le (by rw [← HL.out]; omega)] at h1
        simp [eqL, h1]
  · have hl' : ((xs.length : Int) != (ys.length : Int)) = true := by simp; omega
    have hne : eqL xs ys = false := by
      simp only [eqL, decide_eq_false_iff_not]
      intro e
      exact hl (by rw [e])
    have HN := Lib.hid hne
    clear hl hne
    go_enter Tryd.func16, Tryd.ntmps16
    go_wp2_with fail
    go_ret
    exact ⟨ret_bool HN.out.symm, Below.refl _ _⟩
theorem eqL_self (xs : List Int) : eqL xs xs = true := by simp [eqL]

def eqO (n : Int) (xs : List Int) (m : Int) (ys : List Int) : Bool := decide (n = m) && eqL xs ys
theorem eqO_refl (n : Int) (xs : List Int) : eqO n xs n xs = true := by simp [eqO, eqL]
theorem eqOrder_any (n m : Int) (a b : Option Addr) (xs ys : List Int) (ca cb : Nat) (w : World) (hx : Rd w a xs) (hy : Rd w b ys) :
    Calls Tryd.prog 17 #[.agg #[.int .i64 n, .slice a xs.length ca], .agg #[.int .i64 m, .slice b ys.length cb]] w fun e w' => e = .returned (.bool (eqO n xs m ys)) ∧ Below w.heap.size w w' := by
  by_cases hn : n = m
  · have hn' : (n != m) = false := by simp [hn]
    have HN := Lib.hid hn
    clear hn
    cases he : eqL xs ys
    all_goals
      have HO : Hid (eqO n xs m ys = eqL xs ys) := by simp [Hid, eqO, HN.out]
      have HE := Lib.hid he
      clear he
      go_enter Tryd.func17, Tryd.ntmps17
      go_wp2_with fail
      refine (eqIntS_any _ _ xs ys _ _ _ (hx.below (by repeat (first | exact Below.refl _ _ | assumption | refine Below.alloc ?_ (by first | exact Nat.le_refl _ | (simp only [World.size_alloc, World.size_setCell, World.size_drew]; omega) | omega) _ | refine Below.setCell ?_ (by first | exact Nat.le_refl _ | (simp only [World.size_alloc, World.size_setCell, World.size_drew]; omega) | omega) _ | refine Below.drew ?_))) (hy.below (by repeat (first | exact Below.refl _ _ | assumption | refine Below.alloc ?_ (by first | exact Nat.le_refl _ | (simp only [World.size_alloc, World.size_setCell, World.size_drew]; omega) | omega) _ | refine Below.setCell ?_ (by first | exact Nat.le_refl _ | (simp only [World.size_alloc, World.size_setCell, World.size_drew]; omega) | omega) _ | refine Below.drew ?_)))).mono ?_
      rintro e w1 ⟨rfl, hb⟩
      rw [HE.out]
      obtain ⟨hc, hf⟩ := bcell hb
      go_wp2_with fail
      go_ret
      exact ⟨ret_bool (by rw [HO.out, HE.out]), Below.trans (by repeat (first | exact Below.refl _ _ | assumption | refine Below.alloc ?_ (by first | exact Nat.le_refl _ | (simp only [World.size_alloc, World.size_setCell, World.size_drew]; omega) | omega) _ | refine Below.setCell ?_ (by first | exact Nat.le_refl _ | (simp only [World.size_alloc, World.size_setCell, World.size_drew]; omega) | omega) _ | refine Below.drew ?_)) (hb.mono (by first | (simp only [World.size_alloc, World.size_setCell, World.size_drew]; omega) | omega))⟩
  · have hn' : (n != m) = true := by simp [hn]
    have HO : Hid (eqO n xs m ys = false) := by simp [Hid, eqO, hn]
    clear hn
    go_enter Tryd.func17, Tryd.ntmps17
    go_wp2_with fail
    go_ret
    exact ⟨ret_bool HO.out.symm, (by repeat (first | exact Below.refl _ _ | assumption | refine Below.alloc ?_ (by first | exact Nat.le_refl _ | (simp only [World.size_alloc, World.size_setCell, World.size_drew]; omega) | omega) _ | refine Below.setCell ?_ (by first | exact Nat.le_refl _ | (simp only [World.size_alloc, World.size_setCell, World.size_drew]; omega) | omega) _ | refine Below.drew ?_))⟩

theorem wrap64_small (n : Int) (h0 : -9223372036854775808 ≤ n) (h1 : n ≤ 9223372036854775807) : IntKind.i64.wrap n = n := by
  simp only [IntKind.wrap, IntKind.bits, IntKind.signed]
  simp
  omega
theorem i64_wrap (n : Int) : IntKind.i64.wrap n = wrap64 n := IntWalk.i64_left n
theorem ofInt_i64 (a : Nat) (ha : a < 9223372036854775808) : (BitVec.ofInt 64 (a : Int)).toNat = a := by
  simp
  omega
theorem and_nat (a b : Nat) (ha : a < 9223372036854775808) (hb : b < 9223372036854775808) : bits .and .i64 (a : Int) (b : Int) = ((a &&& b : Nat) : Int) := by
  have hx : a &&& b < 2 ^ 63 := Nat.and_lt_two_pow _ (by omega)
  show IntKind.i64.wrap ((BitVec.ofInt 64 (a : Int) &&& BitVec.ofInt 64 (b : Int)).toNat : Int) = _
  rw [BitVec.toNat_and, ofInt_i64 a ha, ofInt_i64 b hb, wrap64_small _ (by omega) (by omega)]
theorem or_nat (a b : Nat) (ha : a < 9223372036854775808) (hb : b < 9223372036854775808) : bits .or .i64 (a : Int) (b : Int) = ((a ||| b : Nat) : Int) := by
  have hx : a ||| b < 2 ^ 63 := Nat.or_lt_two_pow (by omega) (by omega)
  show IntKind.i64.wrap ((BitVec.ofInt 64 (a : Int) ||| BitVec.ofInt 64 (b : Int)).toNat : Int) = _
  rw [BitVec.toNat_or, ofInt_i64 a ha, ofInt_i64 b hb, wrap64_small _ (by omega) (by omega)]
/-- a set without the elements of another one -/
def sub (a b : Nat) : Nat := a ^^^ (a &&& b)
theorem testBit_sub (a b i : Nat) : (sub a b).testBit i = (a.testBit i && !b.testBit i) := by
  simp [sub, Nat.testBit_xor, Nat.testBit_and]
  cases a.testBit i <;> cases b.testBit i <;> rfl
theorem sub_lt {a b n : Nat} (h : a < 2 ^ n) : sub a b < 2 ^ n := by
  unfold sub
  exact Nat.xor_lt_two_pow h (by rw [Nat.and_comm]; exact Nat.and_lt_two_pow _ h)
theorem sub_nat (a b : Nat) (ha : a < 9223372036854775808) (hb : b < 9223372036854775808) : bits .andNot .i64 (a : Int) (b : Int) = ((sub a b : Nat) : Int) := by
  have hs : sub a b < 2 ^ 63 := sub_lt (by omega)
  show IntKind.i64.wrap ((BitVec.ofInt 64 (a : Int) &&& ~~~BitVec.ofInt 64 (b : Int)).toNat : Int) = _
  have e : (BitVec.ofInt 64 (a : Int) &&& ~~~BitVec.ofInt 64 (b : Int)).toNat = sub a b := by
    apply Nat.eq_of_testBit_eq
    intro i
    rw [BitVec.testBit_toNat, BitVec.getLsbD_and, BitVec.getLsbD_not, testBit_sub, ← BitVec.testBit_toNat, ← BitVec.testBit_toNat, ofInt_i64 a ha, ofInt_i64 b hb]
    by_cases hi : i < 64
    · simp [hi]
    · have : a.testBit i = false := Nat.testBit_lt_two_pow (Nat.lt_of_lt_of_le (by omega : a < 2 ^ 64) (Nat.pow_le_pow_right (by omega) (by omega)))
      simp [this]
  rw [e, wrap64_small _ (by omega) (by omega)]
theorem shr_nat (s i : Nat) (hs : s < 9223372036854775808) : (s : Int) / (2 ^ min i 64) = ((s >>> i : Nat) : Int) := by
  rw [Nat.shiftRight_eq_div_pow]
  by_cases h : i ≤ 64
  · rw [Nat.min_eq_left h]
    simp
  · rw [Nat.min_eq_right (by omega)]
    have : 2 ^ 64 ≤ 2 ^ i := Nat.pow_le_pow_right (by omega) (by omega)
    rw [Nat.div_eq_of_lt (by omega)]
    omega
theorem bit_and (s i : Nat) (hs : s < 9223372036854775808) : (bits .and .i64 ((s >>> i : Nat) : Int) 1 == 1) = s.testBit i := by
  have h1 : s >>> i ≤ s := by rw [Nat.shiftRight_eq_div_pow]; exact Nat.div_le_self _ _
  have := and_nat (s >>> i) 1 (by omega) (by omega)
  rw [show ((1 : Nat) : Int) = 1 from rfl] at this
  rw [this, Nat.testBit, Nat.and_one_is_mod, Nat.and_comm, Nat.and_one_is_mod]
  rcases Nat.mod_two_eq_zero_or_one (s >>> i) with h | h <;> simp [h]
theorem bit_mod (s i : Nat) : (((s >>> i : Nat) : Int) % 2 == 1) = s.testBit i := by
  rw [Nat.testBit, Nat.and_comm, Nat.and_one_is_mod]
  rcases Nat.mod_two_eq_zero_or_one (s >>> i) with h | h
  · have h2 : ((s >>> i : Nat) : Int) % 2 = 0 := by omega
    rw [h2, h]; rfl
  · have h2 : ((s >>> i : Nat) : Int) % 2 = 1 := by omega
    rw [h2, h]; rfl
theorem bit_tmod (s i : Nat) : (((s >>> i : Nat) : Int).tmod 2 == 1) = s.testBit i := by
  rw [Int.tmod_eq_emod_of_nonneg (Int.natCast_nonneg _), bit_mod]
/-- is i in the set s? -/
def hasB (s i : Int) : Bool := s.toNat.testBit i.toNat
theorem has_and {s i : Int} (h0 : 0 ≤ s) (h1 : s ≤ 9223372036854775807) (hi : 0 ≤ i) : (bits .and .i64 (s / 2 ^ min i.toNat 64) 1 == 1) = hasB s i := by
  obtain ⟨S, rfl⟩ := Int.eq_ofNat_of_zero_le h0
  rw [shr_nat S _ (by omega), bit_and S _ (by omega)]
  rfl
theorem has_mod {s i : Int} (h0 : 0 ≤ s) (h1 : s ≤ 9223372036854775807) (hi : 0 ≤ i) : ((s / 2 ^ min i.toNat 64).tmod 2 == 1) = hasB s i := by
  obtain ⟨S, rfl⟩ := Int.eq_ofNat_of_zero_le h0
  rw [shr_nat S _ (by omega), bit_tmod S]
  rfl
theorem pow_w {k : Nat} (h : k < 62) : wrap64 (2 ^ k) = ((2 ^ k : Nat) : Int) := by
  have : 2 ^ k ≤ 2 ^ 61 := Nat.pow_le_pow_right (by omega) (by omega)
  rw [show ((2:Int) ^ k) = ((2 ^ k : Nat) : Int) by simp]
  generalize hp : 2 ^ k = p at *
  exact IntWalk.wrap64_in _ ⟨by omega, by omega⟩
theorem or_bit {b k : Nat} (hb : b < 4611686018427387904) (hk : k < 62) : bits .or .i64 (b : Int) (wrap64 (2 ^ k)) = ((b ||| 2 ^ k : Nat) : Int) := by
  rw [pow_w hk]
  have : 2 ^ k ≤ 2 ^ 61 := Nat.pow_le_pow_right (by omega) (by omega)
  exact or_nat _ _ (by omega) (by omega)
theorem or_i {a b : Int} (ha : 0 ≤ a) (ha1 : a < 9223372036854775808) (hb : 0 ≤ b) (hb1 : b < 9223372036854775808) : bits .or .i64 a b = ((a.toNat ||| b.toNat : Nat) : Int) := by
  obtain ⟨A, rfl⟩ := Int.eq_ofNat_of_zero_le ha
  obtain ⟨B, rfl⟩ := Int.eq_ofNat_of_zero_le hb
  exact or_nat A B (by omega) (by omega)
theorem sub_i {a b : Int} (ha : 0 ≤ a) (ha1 : a < 9223372036854775808) (hb : 0 ≤ b) (hb1 : b < 9223372036854775808) : bits .andNot .i64 a b = ((sub a.toNat b.toNat : Nat) : Int) := by
  obtain ⟨A, rfl⟩ := Int.eq_ofNat_of_zero_le ha
  obtain ⟨B, rfl⟩ := Int.eq_ofNat_of_zero_le hb
  exact sub_nat A B (by omega) (by omega)
theorem or_lt {a b n : Nat} (ha : a < 2 ^ n) (hb : b < 2 ^ n) : a ||| b < 2 ^ n := Nat.or_lt_two_pow ha hb
theorem two_lt {k n : Nat} (h : k < n) : 2 ^ k < 2 ^ n := Nat.pow_lt_pow_right (by omega) h
theorem testBit_two (k i : Nat) : (2 ^ k).testBit i = decide (k = i) := Nat.testBit_two_pow

/-- the elements of a set that are less than k, in order -/
def elemsTo (s : Nat) : Nat → List Int
  | 0 => []
  | k+1 => if s.testBit k then elemsTo s k ++ [(k : Int)] else elemsTo s k
theorem elemsTo_len (s : Nat) : ∀ k, (elemsTo s k).length ≤ k
  | 0 => by simp [elemsTo]
  | k+1 => by
    have := elemsTo_len s k
    simp only [elemsTo]
    split <;> simp <;> omega
theorem mem_elemsTo (s : Nat) (x : Int) : ∀ k, x ∈ elemsTo s k ↔ ∃ i : Nat, i < k ∧ s.testBit i = true ∧ x = i
  | 0 => by simp [elemsTo]
  | k+1 => by
    have ih := mem_elemsTo s x k
    simp only [elemsTo]
    cases hb : s.testBit k
    · rw [if_neg (by simp), ih]
      constructor
      · rintro ⟨i, h1, h2, h3⟩
        exact ⟨i, by omega, h2, h3⟩
      · rintro ⟨i, h1, h2, h3⟩
        have : i ≠ k := fun e => by rw [e, hb] at h2; cases h2
        exact ⟨i, by omega, h2, h3⟩
    · rw [if_pos rfl, List.mem_append, ih]
      constructor
      · rintro (⟨i, h1, h2, h3⟩ | h)
        · exact ⟨i, by omega, h2, h3⟩
        · exact ⟨k, by omega, hb, by simpa using h⟩
      · rintro ⟨i, h1, h2, h3⟩
        by_cases e : i = k
        · exact .inr (by simp [h3, e])
        · exact .inl ⟨i, by omega, h2, h3⟩
theorem elemsTo_more (s k : Nat) (h : s >>> k = 0) : ∀ m, elemsTo s (k + m) = elemsTo s k
  | 0 => rfl
  | m+1 => by
    have hb : s.testBit (k + m) = false := by
      rw [Nat.testBit]
      have : s >>> (k + m) = 0 := by rw [Nat.shiftRight_add, h]; simp
      simp [this]
    show elemsTo s (k + m + 1) = _
    simp only [elemsTo, hb]
    exact elemsTo_more s k h m
/-- all elements of a set below 1024 -/
def elems (s : Nat) : List Int := elemsTo s 10
theorem elems_at {s k : Nat} (h : s >>> k = 0) (hk : k ≤ 10) : elemsTo s k = elems s := by
  have := elemsTo_more s k h (10 - k)
  rw [show k + (10 - k) = 10 from by omega] at this
  exact this.symm
theorem elems_len (s : Nat) : (elems s).length ≤ 10 := elemsTo_len s 10
theorem mem_elems {s : Nat} (hs : s < 1024) {x : Int} : x ∈ elems s ↔ ∃ i : Nat, s.testBit i = true ∧ x = i := by
  rw [elems, mem_elemsTo]
  constructor
  · rintro ⟨i, _, h2, h3⟩
    exact ⟨i, h2, h3⟩
  · rintro ⟨i, h2, h3⟩
    refine ⟨i, ?_, h2, h3⟩
    rcases Nat.lt_or_ge i 10 with h | h
    · exact h
    · have : s < 2 ^ i := Nat.lt_of_lt_of_le hs (Nat.pow_le_pow_right (by omega : 0 < 2) h)
      rw [Nat.testBit_lt_two_pow this] at h2
      cases h2
theorem nth_mem {xs : List Int} {k : Nat} (h : k < xs.length) : nth xs k ∈ xs := by
  rw [nth_get xs k h]; exact List.getElem_mem h
theorem mem_nth {xs : List Int} {x : Int} (h : x ∈ xs) : ∃ k, k < xs.length ∧ nth xs k = x := by
  obtain ⟨k, hk, e⟩ := List.getElem_of_mem h
  exact ⟨k, hk, by rw [nth_get xs k hk, e]⟩

def inB (n lo hi : Int) : Bool := decide (lo ≤ n) && decide (n ≤ hi)
theorem inB_iff {n lo hi : Int} : inB n lo hi = true ↔ lo ≤ n ∧ n ≤ hi := by simp [inB]
theorem inB_no {n lo hi : Int} : inB n lo hi = false ↔ n < lo ∨ hi < n := by
  rw [← Bool.not_eq_true, inB_iff]
  omega

def allB (xs : List Int) (lo hi : Int) : Bool := xs.all (fun x => inB x lo hi)
theorem allB_take (xs : List Int) (lo hi : Int) (k : Nat) (h : k < xs.length) : allB (xs.take (k+1)) lo hi = (allB (xs.take k) lo hi && inB (nth xs k) lo hi) := by
  simp only [allB]
  rw [List.take_succ_eq_append_getElem h, List.all_append]
  simp [nth, h]
theorem allB_false {xs : List Int} {lo hi : Int} {k : Nat} (h : k < xs.length) (h1 : inB (nth xs k) lo hi = false) : allB xs lo hi = false := by
  simp only [allB, List.all_eq_false]
  exact ⟨xs[k], List.getElem_mem h, by simpa [nth, h] using h1⟩
theorem allB_nth {xs : List Int} {lo hi : Int} (h : allB xs lo hi = true) {k : Nat} (hk : k < xs.length) : lo ≤ nth xs k ∧ nth xs k ≤ hi := by
  simp only [allB, List.all_eq_true] at h
  have := inB_iff.1 (h _ (List.getElem_mem hk))
  rwa [← nth_get xs k hk] at this

/-- is it a relation? -/
def relB (n : Int) (xs : List Int) : Bool := inB n 0 10 && decide ((xs.length : Int) = n) && allB xs 0 (2 ^ n.toNat - 1)
theorem relB_iff {n : Int} {xs : List Int} : relB n xs = true ↔ (0 ≤ n ∧ n ≤ 10) ∧ (xs.length : Int) = n ∧ allB xs 0 (2 ^ n.toNat - 1) = true := by
  simp [relB, inB_iff, and_assoc]
theorem pow10 {n : Nat} (h : n ≤ 10) : (1 : Int) ≤ 2 ^ n ∧ (2 : Int) ^ n ≤ 1024 := by
  have h1 : 2 ^ n ≤ 2 ^ 10 := Nat.pow_le_pow_right (by omega) h
  have h2 : 1 ≤ 2 ^ n := Nat.one_le_two_pow
  have h3 : ((2 ^ n : Nat) : Int) = (2 : Int) ^ n := by simp
  omega
theorem full_eq {n : Int} (h0 : 0 ≤ n) (h1 : n ≤ 10) : wrap64 (wrap64 (2 ^ n.toNat) - 1) = 2 ^ n.toNat - 1 := by
  have h2 := pow10 (n := n.toNat) (by omega)
  generalize (2 : Int) ^ n.toNat = p at *
  rw [IntWalk.wrap64_in p ⟨by omega, by omega⟩, IntWalk.wrap64_in _ ⟨by omega, by omega⟩]
structure RelP (n : Int) (xs : List Int) : Prop where
  n0 : 0 ≤ n
  n1 : n ≤ 10
  len : (xs.length : Int) = n
  pos : ∀ k, k < xs.length → 0 ≤ nth xs k
  lt : ∀ k, k < xs.length → nth xs k < 2 ^ xs.length
  small : ∀ k, k < xs.length → nth xs k < 1024
theorem relB_p {n : Int} {xs : List Int} (h : relB n xs = true) : RelP n xs := by
  obtain ⟨⟨h0, h1⟩, h2, h3⟩ := relB_iff.1 h
  have e : n.toNat = xs.length := by omega
  rw [e] at h3
  have hp := pow10 (n := xs.length) (by omega)
  exact ⟨h0, h1, h2, fun k hk => (allB_nth h3 hk).1, fun k hk => by have := (allB_nth h3 hk).2; omega, fun k hk => by have := (allB_nth h3 hk).2; omega⟩

/-- the set of the indices below k of the lists that have i -/
def belowTo (xs : List Int) (i : Int) : Nat → Nat
  | 0 => 0
  | k+1 => if hasB (nth xs k) i then belowTo xs i k ||| 2 ^ k else belowTo xs i k
theorem belowTo_lt (xs : List Int) (i : Int) : ∀ k, belowTo xs i k < 2 ^ k
  | 0 => by simp [belowTo]
  | k+1 => by
    have h := belowTo_lt xs i k
    have h2 : 2 ^ k < 2 ^ (k+1) := two_lt (by omega)
    simp only [belowTo]
    split
    · exact or_lt (by omega) h2
    · omega
theorem belowTo_small (xs : List Int) (i : Int) {k : Nat} (h : k ≤ 10) : belowTo xs i k < 1024 := by
  have h1 := belowTo_lt xs i k
  have h2 : 2 ^ k ≤ 2 ^ 10 := Nat.pow_le_pow_right (by omega) h
  omega
theorem belowTo_bit (xs : List Int) (i : Int) (j : Nat) : ∀ k, (belowTo xs i k).testBit j = (decide (j < k) && hasB (nth xs j) i)
  | 0 => by simp [belowTo]
  | k+1 => by
    have h := belowTo_bit xs i j k
    simp only [belowTo]
    by_cases hjk : j = k
    · subst hjk
      cases hb : hasB (nth xs j) i
      · simp [h]
      · simp [Nat.testBit_or, testBit_two]
    · have e : decide (j < k + 1) = decide (j < k) := by
        rw [decide_eq_decide]; omega
      rw [e, ← h]
      have hkj : ¬ k = j := fun e => hjk e.symm
      cases hb : hasB (nth xs k) i <;> simp [Nat.testBit_or, testBit_two, hkj]

/-- the list of f 0, .., f (k - 1) -/
def fmap (f : Nat → Int) (k : Nat) : List Int := (List.range k).map f
theorem fmap_len (f : Nat → Int) (k : Nat) : (fmap f k).length = k := by simp [fmap]
theorem fmap_nth (f : Nat → Int) {k i : Nat} (h : i < k) : nth (fmap f k) i = f i := by simp [nth, fmap, h]
theorem fmap_succ (f : Nat → Int) (k : Nat) : fmap f (k+1) = fmap f k ++ [f k] := by simp [fmap, List.range_succ]
/-- one store more into a row that was made -/
theorem fill_step (f : Nat → Int) (m k : Nat) (h : k < m) :
    ((fmap f k ++ List.replicate (m - k) (0:Int)).map (Value.int .i64)).set k (.int .i64 (f k)) = (fmap f (k+1) ++ List.replicate (m - (k+1)) (0:Int)).map (Value.int .i64) := by
  apply List.ext_getElem?
  intro j
  rw [List.getElem?_set]
  by_cases hj : k = j
  · subst hj
    rw [if_pos rfl, if_pos (by simp [fmap_len]; omega), List.getElem?_map, List.getElem?_append_left (by rw [fmap_len]; omega)]
    simp [fmap]
  · simp only [hj, if_false, List.getElem?_map, List.getElem?_append, fmap_len, List.getElem?_replicate]
    by_cases h1 : j < k
    · have h2 : j < k + 1 := by omega
      simp [h1, h2, fmap]
    · have h2 : ¬ j < k + 1 := by omega
      have h3 : j - k < m - k ↔ j - (k+1) < m - (k+1) := by omega
      simp [h1, h2, h3]
theorem fill_end (f : Nat → Int) (m : Nat) : fmap f m ++ List.replicate (m - m) (0:Int) = fmap f m := by simp
/-- the row that a make of m integers has made -/
theorem made_ints {w1 : World} {B : Nat} {v : Value} {m : Nat} (f : Nat → Int) (h : w1.ownsRow B 3 1 v m (madeCells (Value.int .i64 0).cells (m * 1)).toList) :
    w1.ownsRow B 3 1 v m ((fmap f 0 ++ List.replicate (m - 0) (0:Int)).map (Value.int .i64)) := by
  simpa [Value.cells, toList_madeCells_one, fmap] using h

def belows (xs : List Int) (k : Nat) : List Int := fmap (fun i => ((belowTo xs i xs.length : Nat) : Int)) k
theorem belows_len (xs : List Int) (k : Nat) : (belows xs k).length = k := fmap_len _ _

/-- a list in order, as the library sorts it -/
def srt (xs : List Int) : List Int := xs.mergeSort fun x y => decide (x ≤ y)
theorem srt_len (xs : List Int) : (srt xs).length = xs.length := List.length_mergeSort xs
theorem srt_mem (xs : List Int) (x : Int) : x ∈ srt xs ↔ x ∈ xs := List.mem_mergeSort
theorem srt_le (xs : List Int) : (srt xs).Pairwise (· ≤ ·) := by
  have h := List.pairwise_mergeSort (le := fun (x y : Int) => decide (x ≤ y)) (fun a b c h1 h2 => by simp only [decide_eq_true_eq] at *; omega) (fun a b => by simp only [Bool.or_eq_true, decide_eq_true_eq]; omega) xs
  exact h.imp (fun h => by simpa using h)

/-- one step of the closing: what is above k goes to i, if k is above i -/
def clStep (xs : List Int) (k i : Nat) : List Int := if hasB (nth xs i) k then xs.set i (((nth xs i).toNat ||| (nth xs k).toNat : Nat) : Int) else xs
def clRow (xs : List Int) (k : Nat) : Nat → List Int
  | 0 => xs
  | i+1 => clStep (clRow xs k i) k i
def clAll (xs : List Int) : Nat → List Int
  | 0 => xs
  | k+1 => clRow (clAll xs k) k xs.length
theorem clStep_len (xs : List Int) (k i : Nat) : (clStep xs k i).length = xs.length := by
  unfold clStep; split <;> simp
theorem clRow_len (xs : List Int) (k : Nat) : ∀ i, (clRow xs k i).length = xs.length
  | 0 => rfl
  | i+1 => by rw [clRow, clStep_len, clRow_len xs k i]
theorem clAll_len (xs : List Int) : ∀ k, (clAll xs k).length = xs.length
  | 0 => rfl
  | k+1 => by rw [clAll, clRow_len, clAll_len xs k]
/-- all numbers of a list are sets below 1024 -/
def Small (xs : List Int) : Prop := ∀ k, k < xs.length → 0 ≤ nth xs k ∧ nth xs k < 1024
theorem nth_set {xs : List Int} {i j : Nat} {x : Int} (hi : i < xs.length) : nth (xs.set i x) j = if i = j then x else nth xs j := by
  simp only [nth, List.getD_eq_getElem?_getD, List.getElem?_set]
  by_cases h : i = j
  · subst h; simp [hi]
  · simp [h]
theorem clStep_small {xs : List Int} (h : Small xs) {k i : Nat} (hk : k < xs.length) (hi : i < xs.length) : Small (clStep xs k i) := by
  unfold clStep
  split
  · intro j hj
    rw [nth_set hi]
    have h1 := h i hi
    have h2 := h k hk
    split
    · have : (nth xs i).toNat ||| (nth xs k).toNat < 2 ^ 10 := or_lt (by omega) (by omega)
      omega
    · exact h j (by simpa using hj)
  · exact h
theorem clRow_small {xs : List Int} (h : Small xs) {k : Nat} (hk : k < xs.length) : ∀ i, i ≤ xs.length → Small (clRow xs k i)
  | 0, _ => h
  | i+1, hi => clStep_small (clRow_small h hk i (by omega)) (by rw [clRow_len]; exact hk) (by rw [clRow_len]; omega)
theorem clAll_small {xs : List Int} (h : Small xs) : ∀ k, k ≤ xs.length → Small (clAll xs k)
  | 0, _ => h
  | k+1, hk => clRow_small (clAll_small h k (by omega)) (by rw [clAll_len]; omega) _ (by rw [clAll_len]; omega)
theorem RelP.sm {n : Int} {xs : List Int} (h : RelP n xs) : Small xs := fun k hk => ⟨h.pos k hk, h.small k hk⟩
theorem set_ints (xs : List Int) (i : Nat) (x : Int) : (xs.map (Value.int .i64)).set i (.int .i64 x) = (xs.set i x).map (Value.int .i64) := by
  rw [List.map_set]
/-- a store into an owned row -/
theorem OwnI.put {w : World} {B g n cap : Nat} {xs : List Int} (h : OwnI w B (.slice (some ⟨g, 0, none⟩) n cap) xs) (hn : n = xs.length) (i : Nat) (x : Int) :
    OwnI (w.setCell ⟨g, i, none⟩ (.int .i64 x)) B (.slice (some ⟨g, 0, none⟩) n cap) (xs.set i x) ∧ w.grownBy (w.setCell ⟨g, i, none⟩ (.int .i64 x)) (some g) := by
  subst hn
  have hst := World.ownsRow.stored h i (.int .i64 x)
  rw [set_ints] at hst
  refine ⟨?_, hst.2⟩
  unfold OwnI
  rw [List.length_set]
  exact hst.1
theorem OwnI.at' {w : World} {B g n cap : Nat} {xs : List Int} (h : OwnI w B (.slice (some ⟨g, 0, none⟩) n cap) xs) (hn : n = xs.length) {i : Nat} (hi : i < xs.length) :
    w.cell? ⟨g, i, none⟩ = some (.int .i64 (nth xs i)) ∧ w.frozen? ⟨g, i, none⟩ = false := by
  subst hn
  refine ⟨?_, World.ownsRow.frozenAt h i⟩
  rw [World.ownsRow.cellAt h i (by omega)]
  simp [nth, hi]
theorem OwnI.head {w : World} {B n cap : Nat} {a : Option Addr} {xs : List Int} (h : OwnI w B (.slice a n cap) xs) (hp : 0 < xs.length) : ∃ g, a = some ⟨g, 0, none⟩ ∧ B ≤ g ∧ g < w.heap.size := by
  rcases h.2 with ⟨e, h0⟩ | ⟨g, c, cur, e, hb, hg, _⟩
  · omega
  · simp only [Value.slice.injEq] at e
    exact ⟨g, e.1, hb, (Array.getElem?_eq_some_iff.1 hg).1⟩
def cloN (n : Int) (xs : List Int) : Int := if relB n xs then n else 0
def cloL (n : Int) (xs : List Int) : List Int := if relB n xs then clAll xs xs.length else []
theorem cloL_len (n : Int) (xs : List Int) : (cloL n xs).length ≤ 1048576 := by
  unfold cloL
  split
  · rename_i h
    have hp := relB_p h
    have := hp.len
    have := hp.n1
    rw [clAll_len]
    omega
  · simp

/-- how many elements are below i -/
def cntB (xs : List Int) (i : Nat) : Int := ((elems (belowTo xs i xs.length)).length : Int)
def cntA (xs : List Int) (i : Nat) : Int := ((elems (nth xs i).toNat).length : Int)
def cnts (xs : List Int) (k : Nat) : List Int := fmap (cntB xs) k
theorem cnts_len (xs : List Int) (k : Nat) : (cnts xs k).length = k := fmap_len _ _
/-- does i stand ahead of j in the trace list? -/
def befT (xs : List Int) (i j : Nat) : Bool :=
  if cntB xs i ≠ cntB xs j then decide (cntB xs i < cntB xs j)
  else if cntA xs i ≠ cntA xs j then decide (cntA xs j < cntA xs i)
  else decide (i < j)
theorem befT_iff {xs : List Int} {i j : Nat} : befT xs i j = true ↔ cntB xs i < cntB xs j ∨ (cntB xs i = cntB xs j ∧ (cntA xs j < cntA xs i ∨ (cntA xs i = cntA xs j ∧ i < j))) := by
  unfold befT
  by_cases h1 : cntB xs i = cntB xs j
  · rw [if_neg (by omega)]
    by_cases h2 : cntA xs i = cntA xs j
    · rw [if_neg (by omega), decide_eq_true_eq]; omega
    · rw [if_pos h2, decide_eq_true_eq]; omega
  · rw [if_pos h1, decide_eq_true_eq]; omega
theorem befT_tr {xs : List Int} {a b c : Nat} (h1 : befT xs a b = true) (h2 : befT xs b c = true) : befT xs a c = true := by
  rw [befT_iff] at *
  omega
theorem befT_tot {xs : List Int} {a b : Nat} (h : a ≠ b) (h1 : befT xs a b = false) : befT xs b a = true := by
  rw [← Bool.not_eq_true, befT_iff] at h1
  rw [befT_iff]
  omega
theorem befT_le {xs : List Int} {a b : Nat} (h : befT xs a b = true) : cntB xs a ≤ cntB xs b := by
  rw [befT_iff] at h
  omega
/-- an element put where it belongs -/
def putT (xs : List Int) (out : List Nat) (i : Nat) : List Nat := out.takeWhile (fun a => befT xs a i) ++ i :: out.dropWhile (fun a => befT xs a i)
def trT (xs : List Int) : Nat → List Nat
  | 0 => []
  | k+1 => putT xs (trT xs k) k
theorem putT_perm (xs : List Int) (out : List Nat) (i : Nat) : (putT xs out i).Perm (i :: out) := by
  unfold putT
  have h := List.takeWhile_append_dropWhile (p := fun a => befT xs a i) (l := out)
  conv => rhs; rw [← h]
  exact List.perm_middle
theorem trT_perm (xs : List Int) : ∀ k, (trT xs k).Perm (List.range k)
  | 0 => by simp [trT]
  | k+1 => by
    rw [trT, List.range_succ]
    exact (putT_perm xs _ k).trans (((trT_perm xs k).cons k).trans (List.perm_append_singleton k _).symm)
theorem trT_len (xs : List Int) (k : Nat) : (trT xs k).length = k := by rw [(trT_perm xs k).length_eq, List.length_range]
theorem trT_lt {xs : List Int} {k a : Nat} (h : a ∈ trT xs k) : a < k := by rw [(trT_perm xs k).mem_iff] at h; simpa using h
theorem dw_all {α : Type} {p : α → Bool} {R : α → α → Prop} {x : α} : ∀ {l : List α}, l.Pairwise R → (∀ a b, p a = false → R a b → p b = false) → x ∈ l.dropWhile p → p x = false
  | [], _, _, h => by simp at h
  | a :: l, hl, hR, h => by
    rw [List.pairwise_cons] at hl
    rw [List.dropWhile_cons] at h
    cases hp : p a
    · rw [hp, if_neg (by simp)] at h
      rcases List.mem_cons.1 h with rfl | h
      · exact hp
      · exact hR a x hp (hl.1 x h)
    · rw [hp, if_pos rfl] at h
      exact dw_all hl.2 hR h
theorem putT_pw {xs : List Int} {out : List Nat} {i : Nat} (h : out.Pairwise (fun a b => befT xs a b = true)) (hi : ∀ a, a ∈ out → a ≠ i) : (putT xs out i).Pairwise (fun a b => befT xs a b = true) := by
  unfold putT
  have hd := List.takeWhile_append_dropWhile (p := fun a => befT xs a i) (l := out)
  have hta : ∀ a, a ∈ out.takeWhile (fun a => befT xs a i) → befT xs a i = true := fun a ha => by
    have := List.all_takeWhile (p := fun a => befT xs a i) (l := out)
    rw [List.all_eq_true] at this
    exact this a ha
  have hdw : ∀ a, a ∈ out.dropWhile (fun a => befT xs a i) → befT xs i a = true := fun a ha => by
    have h1 : befT xs a i = false := dw_all (p := fun a => befT xs a i) h (fun a b h1 h2 => by
      rw [← Bool.not_eq_true] at h1 ⊢
      exact fun h3 => h1 (befT_tr h2 h3)) ha
    exact befT_tot (hi a (by rw [← hd]; exact List.mem_append_right _ ha)) h1
  have hs := h
  rw [← hd, List.pairwise_append] at hs
  rw [List.pairwise_append, List.pairwise_cons]
  refine ⟨hs.1, ⟨hdw, hs.2.1⟩, fun a ha b hb => ?_⟩
  rcases List.mem_cons.1 hb with rfl | hb
  · exact hta a ha
  · exact hs.2.2 a ha b hb
theorem trT_pw (xs : List Int) : ∀ k, (trT xs k).Pairwise (fun a b => befT xs a b = true)
  | 0 => List.Pairwise.nil
  | k+1 => putT_pw (trT_pw xs k) (fun a ha => by have := trT_lt ha; omega)
theorem sorted_unique : ∀ {l m : List Int}, l.Pairwise (· ≤ ·) → m.Pairwise (· ≤ ·) → l.Perm m → l = m := fun h1 h2 h => h.eq_of_pairwise (fun a b _ _ h3 h4 => Int.le_antisymm h3 h4) h1 h2
/-- the numbers below, along the trace, are the sorted ones -/
theorem stair_eq (xs : List Int) : (trT xs xs.length).map (cntB xs) = srt (cnts xs xs.length) := by
  refine sorted_unique ?_ (srt_le _) ?_
  · rw [List.pairwise_map]
    exact (trT_pw xs _).imp (fun h => befT_le h)
  · refine ((trT_perm xs xs.length).map (cntB xs)).trans ?_
    exact (List.mergeSort_perm _ _).symm
theorem cnts_nth {xs : List Int} {k i : Nat} (h : i < k) : nth (cnts xs k) i = cntB xs i := fmap_nth _ h
/-- counts up to k, and sets from there on -/
def mixE (xs : List Int) (k i : Nat) : Int := if i < k then cntB xs i else ((belowTo xs (i : Int) xs.length : Nat) : Int)
def mixC (xs : List Int) (k : Nat) : List Int := fmap (mixE xs k) xs.length
theorem mixC_len (xs : List Int) (k : Nat) : (mixC xs k).length = xs.length := fmap_len _ _
theorem mixC_0 (xs : List Int) : mixC xs 0 = belows xs xs.length := rfl
theorem mixC_end (xs : List Int) : mixC xs xs.length = cnts xs xs.length := by
  apply List.ext_getElem (by rw [mixC_len, cnts_len])
  intro i h1 h2
  rw [mixC_len] at h1
  rw [← nth_get _ _ (by rw [mixC_len]; exact h1), ← nth_get _ _ (by rw [cnts_len]; exact h1), cnts_nth h1, show nth (mixC xs xs.length) i = _ from fmap_nth _ h1, mixE, if_pos h1]
theorem mixC_at {xs : List Int} {k : Nat} (h : k < xs.length) : nth (mixC xs k) k = ((belowTo xs (k : Int) xs.length : Nat) : Int) := by
  rw [show nth (mixC xs k) k = _ from fmap_nth _ h, mixE, if_neg (by omega)]
theorem mixC_set {xs : List Int} {k : Nat} (h : k < xs.length) : (mixC xs k).set k (cntB xs k) = mixC xs (k+1) := by
  apply List.ext_getElem (by rw [List.length_set, mixC_len, mixC_len])
  intro i h1 h2
  rw [mixC_len] at h2
  rw [List.getElem_set, ← nth_get (mixC xs (k+1)) _ (by rw [mixC_len]; exact h2), show nth (mixC xs (k+1)) i = _ from fmap_nth _ h2]
  by_cases hk : k = i
  · subst hk
    rw [if_pos rfl, mixE, if_pos (by omega)]
  · rw [if_neg hk, ← nth_get (mixC xs k) _ (by rw [mixC_len]; exact h2), show nth (mixC xs k) i = _ from fmap_nth _ h2, mixE, mixE]
    by_cases hi : i < k
    · rw [if_pos hi, if_pos (by omega)]
    · rw [if_neg hi, if_neg (by omega)]

/-- the first answer that a function gives below n -/
def find1 {α : Type} (f : Nat → Option α) (n : Nat) : Option α := (List.range n).findSome? f
theorem find1_none {α : Type} {f : Nat → Option α} {n : Nat} (h : ∀ j, j < n → f j = none) : find1 f n = none := by
  rw [find1, List.findSome?_eq_none_iff]
  intro x hx
  exact h x (by simpa using hx)
theorem find1_succ {α : Type} {f : Nat → Option α} (n : Nat) : find1 f (n+1) = (find1 f n).or (f n) := by
  rw [find1, List.range_succ, List.findSome?_append]
  simp [find1, List.findSome?]
  cases f n <;> rfl
theorem find1_some {α : Type} {f : Nat → Option α} {x : α} : ∀ {n k : Nat}, k < n → f k = some x → (∀ j, j < k → f j = none) → find1 f n = some x
  | 0, k, hk, _, _ => by omega
  | n+1, k, hk, h1, h2 => by
    rw [find1_succ]
    by_cases e : k = n
    · subst e
      rw [find1_none h2, h1]; rfl
    · rw [find1_some (n := n) (by omega) h1 h2]; rfl
theorem find1_congr {α : Type} {f g : Nat → Option α} {n : Nat} (h : ∀ j, j < n → f j = g j) : find1 f n = find1 g n := by
  unfold find1
  induction n with
  | zero => rfl
  | succ n ih =>
    have := ih (fun j hj => h j (by omega))
    rw [List.range_succ, List.findSome?_append, List.findSome?_append, this]
    congr 1
    simp [List.findSome?, h n (by omega)]
theorem find1_ex {α : Type} {f : Nat → Option α} {x : α} : ∀ {n : Nat}, find1 f n = some x → ∃ k, k < n ∧ f k = some x ∧ ∀ j, j < k → f j = none
  | 0, h => by simp [find1] at h
  | n+1, h => by
    rw [find1_succ] at h
    cases hf : find1 f n with
    | none =>
      rw [hf] at h
      refine ⟨n, by omega, by simpa using h, fun j hj => ?_⟩
      rw [find1, List.findSome?_eq_none_iff] at hf
      exact hf j (by simpa using hj)
    | some y =>
      rw [hf] at h
      have e : y = x := by simpa using h
      subst e
      obtain ⟨k, hk, h1, h2⟩ := find1_ex hf
      exact ⟨k, by omega, h1, h2⟩
theorem find1_map {α β : Type} {f : Nat → Option α} {g : α → β} {n : Nat} : find1 (fun j => (f j).map g) n = (find1 f n).map g := by
  induction n with
  | zero => rfl
  | succ n ih => rw [find1_succ, find1_succ, ih]; cases find1 f n <;> rfl

theorem elems_lt {S n : Nat} (hS : S < 2 ^ n) (hn : n ≤ 10) : elems S = elemsTo S n := (elems_at (by rw [Nat.shiftRight_eq_div_pow]; exact Nat.div_eq_of_lt hS) hn).symm

/-- the first answer over a set's elements -/
def findE {α : Type} (s : Nat) (f : Nat → Option α) : Option α := (elems s).findSome? (fun x => f x.toNat)
theorem findE_to {α : Type} (s : Nat) (f : Nat → Option α) : ∀ n, (elemsTo s n).findSome? (fun x => f x.toNat) = find1 (fun b => if s.testBit b then f b else none) n
  | 0 => by simp [elemsTo, find1]
  | n+1 => by
    rw [find1_succ, ← findE_to s f n]
    simp only [elemsTo]
    cases h : s.testBit n
    · simp
    · simp only [if_true, List.findSome?_append]
      congr 1
      simp [List.findSome?]
      cases f n <;> rfl
theorem findE_eq {α : Type} {s n : Nat} (f : Nat → Option α) (hs : s < 2 ^ n) (hn : n ≤ 10) : findE s f = find1 (fun b => if s.testBit b then f b else none) n := by
  rw [findE, elems_lt hs hn, findE_to]
def four (a b c d : Nat) : List Int := [(a : Int), (b : Int), (c : Int), (d : Int)]
theorem findE_ex {α : Type} {s : Nat} {f : Nat → Option α} {y : α} (hs : s < 1024) (h : findE s f = some y) : ∃ d, s.testBit d = true ∧ f d = some y := by
  rw [findE_eq (n := 10) f hs (by omega)] at h
  obtain ⟨k, _, h1, _⟩ := find1_ex h
  split at h1
  · exact ⟨k, by assumption, h1⟩
  · cases h1
theorem findE_no {α : Type} {s : Nat} {f : Nat → Option α} (hs : s < 1024) (h : ∀ d, s.testBit d = true → f d = none) : findE s f = none := by
  rw [findE_eq (n := 10) f hs (by omega)]
  refine find1_none (fun j _ => ?_)
  split
  · exact h j (by assumption)
  · rfl
theorem has_bit (s : Int) (b : Nat) : hasB s (b : Int) = s.toNat.testBit b := rfl
theorem findE_at {α : Type} {s p : Nat} {f : Nat → Option α} {y : α} (hp : p < (elems s).length) (h : f (nth (elems s) p).toNat = some y) (hb : ∀ q, q < p → f (nth (elems s) q).toNat = none) : findE s f = some y := by
  unfold findE
  rw [← List.take_append_drop p (elems s), List.findSome?_append, List.drop_eq_getElem_cons hp]
  have h1 : (List.take p (elems s)).findSome? (fun x => f x.toNat) = none := by
    rw [List.findSome?_eq_none_iff]
    intro x hx
    obtain ⟨q, hq, e⟩ := List.getElem_of_mem hx
    rw [List.length_take] at hq
    have := hb q (by omega)
    rw [nth_get _ _ (by omega)] at this
    rw [← e, List.getElem_take]
    exact this
  rw [nth_get _ _ hp] at h
  rw [h1, List.findSome?_cons, h]
  rfl
theorem findE_nil {α : Type} {s : Nat} {f : Nat → Option α} (hb : ∀ q, q < (elems s).length → f (nth (elems s) q).toNat = none) : findE s f = none := by
  unfold findE
  rw [List.findSome?_eq_none_iff]
  intro x hx
  obtain ⟨q, hq, rfl⟩ := mem_nth hx
  exact hb q hq

/-- the set of the elements that are indifferent to k -/
def freeN (xs : List Int) (k : Nat) : Nat := sub (2 ^ xs.length - 1) (((nth xs k).toNat ||| belowTo xs k xs.length) ||| 2 ^ k)
theorem free_val {n : Int} {xs : List Int} (hp : RelP n xs) {k : Nat} (hk : k < xs.length) :
    bits .andNot .i64 (wrap64 (wrap64 (2 ^ n.toNat) - 1)) (bits .or .i64 (bits .or .i64 (nth xs k) ((belowTo xs k xs.length : Nat) : Int)) (wrap64 (2 ^ k))) = ((freeN xs k : Nat) : Int) := by
  have hl := hp.len
  have hn := hp.n1
  have h0 := hp.n0
  have e : n.toNat = xs.length := by omega
  have hs := hp.small k hk
  have h1 := hp.pos k hk
  have hb := belowTo_small xs k (k := xs.length) (by omega)
  have hpw := pow10 (n := xs.length) (by omega)
  rw [full_eq h0 hn, e]
  rw [or_i h1 (by omega) (by omega) (by omega)]
  have ho : (nth xs k).toNat ||| (belowTo xs k xs.length) < 2 ^ 10 := or_lt (by omega) (by omega)
  rw [show (((belowTo xs k xs.length : Nat) : Int)).toNat = belowTo xs k xs.length from rfl]
  rw [or_bit (by omega) (by omega)]
  have ho2 : ((nth xs k).toNat ||| (belowTo xs k xs.length)) ||| 2 ^ k < 2 ^ 10 := or_lt ho (two_lt (by omega))
  rw [sub_i (by omega) (by omega) (by omega) (by omega)]
  have e2 : ((2:Int) ^ xs.length - 1).toNat = 2 ^ xs.length - 1 := by
    have : ((2 ^ xs.length : Nat) : Int) = (2 : Int) ^ xs.length := by simp
    omega
  rw [e2]
  rfl
theorem free_val2 {n : Int} {xs : List Int} (hp : RelP n xs) {k : Nat} (hk : k < xs.length) :
    bits .andNot .i64 (2 ^ n.toNat - 1) (bits .or .i64 (bits .or .i64 (nth xs k) ((belowTo xs k xs.length : Nat) : Int)) (wrap64 (2 ^ k))) = ((freeN xs k : Nat) : Int) := by
  rw [← free_val hp hk, full_eq hp.n0 hp.n1]

theorem and_i {a b : Int} (ha : 0 ≤ a) (ha1 : a < 9223372036854775808) (hb : 0 ≤ b) (hb1 : b < 9223372036854775808) : bits .and .i64 a b = ((a.toNat &&& b.toNat : Nat) : Int) := by
  obtain ⟨A, rfl⟩ := Int.eq_ofNat_of_zero_le ha
  obtain ⟨B, rfl⟩ := Int.eq_ofNat_of_zero_le hb
  exact and_nat A B (by omega) (by omega)

/-- the first one of the longest lists whose first element is below k, if the rest behind i is told -/
def bestTo (rest : Nat → List Int) (S : Nat) : Nat → List Int
  | 0 => []
  | k+1 => if S.testBit k then (if (bestTo rest S k).length ≤ (rest k).length then (k : Int) :: rest k else bestTo rest S k) else bestTo rest S k
theorem bestTo_congr {r r' : Nat → List Int} {S : Nat} : ∀ k, (∀ i, i < k → S.testBit i = true → r i = r' i) → bestTo r S k = bestTo r' S k
  | 0, _ => rfl
  | k+1, h => by
    have ih := bestTo_congr k (fun i hi => h i (by omega))
    simp only [bestTo]
    cases hb : S.testBit k
    · simp [ih]
    · rw [ih, h k (by omega) hb]
theorem bestTo_len {r : Nat → List Int} {S d : Nat} : ∀ k, (∀ i, i < k → (r i).length ≤ d) → (bestTo r S k).length ≤ d + 1
  | 0, _ => by simp [bestTo]
  | k+1, h => by
    have ih := bestTo_len (S := S) k (fun i hi => h i (by omega))
    have h2 := h k (by omega)
    simp only [bestTo]
    split
    · split
      · simp; omega
      · exact ih
    · exact ih
def lngD (fl : List Int) : Nat → Nat → List Int
  | 0, _ => []
  | d+1, S => bestTo (fun i => lngD fl d (S &&& (nth fl i).toNat)) S fl.length
theorem lngD_len (fl : List Int) : ∀ d S, (lngD fl d S).length ≤ d
  | 0, _ => Nat.le_refl _
  | d+1, S => bestTo_len _ (fun i _ => lngD_len fl d _)
/-- the first one of the longest lists of elements of S in which what comes behind i is in fl at i -/
def lng (fl : List Int) (S : Nat) : List Int := lngD fl (S+1) S
theorem lng_len (fl : List Int) (S : Nat) : (lng fl S).length ≤ S + 1 := lngD_len fl _ _
/-- no element comes behind itself -/
structure Flw (fl : List Int) : Prop where
  len : fl.length ≤ 10
  ok : ∀ i, i < fl.length → 0 ≤ nth fl i ∧ nth fl i < 1024 ∧ (nth fl i).toNat.testBit i = false
theorem and_less {S x i : Nat} (hS : S.testBit i = true) (hx : x.testBit i = false) : S &&& x < S := by
  have h1 : S &&& x ≤ S := Nat.and_le_left
  rcases Nat.lt_or_eq_of_le h1 with h | h
  · exact h
  · have : (S &&& x).testBit i = true := by rw [h]; exact hS
    rw [Nat.testBit_and, hx] at this
    simp at this
theorem lngD_eq {fl : List Int} (hf : Flw fl) : ∀ (S d : Nat), S < d → lngD fl d S = lng fl S := by
  intro S
  induction S using Nat.strongRecOn with
  | _ S ih =>
    intro d hd
    obtain ⟨e, rfl⟩ : ∃ e, d = e + 1 := ⟨d - 1, by omega⟩
    show bestTo _ S fl.length = bestTo _ S fl.length
    refine bestTo_congr _ (fun i hi hb => ?_)
    have hl := and_less hb (hf.ok i hi).2.2
    rw [ih _ hl e (by omega), ih _ hl S hl]
theorem lng_eq {fl : List Int} (hf : Flw fl) (S : Nat) : lng fl S = bestTo (fun i => lng fl (S &&& (nth fl i).toNat)) S fl.length := by
  show bestTo _ S fl.length = _
  refine bestTo_congr _ (fun i hi hb => ?_)
  exact lngD_eq hf _ _ (and_less hb (hf.ok i hi).2.2)
def stepL (rest : Nat → List Int) (best : List Int) (x : Int) : List Int := if best.length ≤ (rest x.toNat).length then x :: rest x.toNat else best
theorem fold_best (rest : Nat → List Int) (S : Nat) : ∀ k, (elemsTo S k).foldl (stepL rest) [] = bestTo rest S k
  | 0 => rfl
  | k+1 => by
    have ih := fold_best rest S k
    simp only [elemsTo, bestTo]
    cases hb : S.testBit k
    · simpa using ih
    · rw [if_pos rfl, if_pos rfl, List.foldl_append, ih]
      rfl
theorem fold_take {f : List Int → Int → List Int} {es : List Int} {m : Nat} (h : m < es.length) : (es.take (m+1)).foldl f [] = f ((es.take m).foldl f []) (nth es m) := by
  rw [List.take_succ_eq_append_getElem h, List.foldl_append, nth_get _ _ h]; rfl

def okAtB (xs : List Int) (k : Nat) : Bool := !hasB (nth xs k) k && (List.range xs.length).all (fun j => !hasB (nth xs k) j || sub (nth xs j).toNat (nth xs k).toNat == 0)
/-- is it an order? -/
def ordB (n : Int) (xs : List Int) : Bool := relB n xs && (List.range xs.length).all (okAtB xs)
theorem okAtB_iff {xs : List Int} {k : Nat} : okAtB xs k = true ↔ hasB (nth xs k) k = false ∧ ∀ j, j < xs.length → hasB (nth xs k) j = true → sub (nth xs j).toNat (nth xs k).toNat = 0 := by
  simp only [okAtB, Bool.and_eq_true, Bool.not_eq_true', List.all_eq_true, List.mem_range, Bool.or_eq_true, beq_iff_eq]
  constructor
  · rintro ⟨h1, h2⟩
    exact ⟨h1, fun j hj hb => (h2 j hj).resolve_left (by simp [hb])⟩
  · rintro ⟨h1, h2⟩
    refine ⟨h1, fun j hj => ?_⟩
    cases hb : hasB (nth xs k) j
    · exact .inl rfl
    · exact .inr (h2 j hj hb)
theorem ordB_iff {n : Int} {xs : List Int} : ordB n xs = true ↔ relB n xs = true ∧ ∀ k, k < xs.length → okAtB xs k = true := by
  simp [ordB]
theorem ordB_no {n : Int} {xs : List Int} {k : Nat} (hk : k < xs.length) (h : okAtB xs k = false) : ordB n xs = false := by
  rw [← Bool.not_eq_true, ordB_iff]
  rintro ⟨_, h2⟩
  rw [h2 k hk] at h
  cases h
theorem okAtB_has {xs : List Int} {k : Nat} (h : hasB (nth xs k) k = true) : okAtB xs k = false := by
  simp [okAtB, h]
theorem okAtB_sub {xs : List Int} {k j : Nat} (hj : j < xs.length) (h : hasB (nth xs k) j = true) (h2 : sub (nth xs j).toNat (nth xs k).toNat ≠ 0) : okAtB xs k = false := by
  rw [← Bool.not_eq_true, okAtB_iff]
  rintro ⟨_, h3⟩
  exact h2 (h3 j hj h)
theorem sub_zero {a b : Nat} : sub a b = 0 ↔ ∀ i, a.testBit i = true → b.testBit i = true := by
  constructor
  · intro h i hi
    have := testBit_sub a b i
    rw [h, hi] at this
    simpa using this.symm
  · intro h
    apply Nat.eq_of_testBit_eq
    intro i
    rw [testBit_sub]
    cases ha : a.testBit i
    · simp
    · simp [h i ha]
theorem has_lt {n : Int} {xs : List Int} (hp : RelP n xs) {k : Nat} (hk : k < xs.length) {j : Nat} (h : hasB (nth xs k) j = true) : j < xs.length := by
  rcases Nat.lt_or_ge j xs.length with h' | h'
  · exact h'
  · have h1 := hp.lt k hk
    have h0 := hp.pos k hk
    have h2 : (nth xs k).toNat < 2 ^ j := by
      have : (2 : Nat) ^ xs.length ≤ 2 ^ j := Nat.pow_le_pow_right (by omega) h'
      have e : ((2 ^ xs.length : Nat) : Int) = (2 : Int) ^ xs.length := by simp
      omega
    simp only [hasB] at h
    rw [Int.toNat_natCast, Nat.testBit_lt_two_pow h2] at h
    cases h

theorem ord_rel {n : Int} {xs : List Int} (h : ordB n xs = true) : RelP n xs := relB_p (ordB_iff.1 h).1

/-- the elements that may come behind i in an antichain -/
def latE (xs : List Int) (i : Nat) : Int := ((sub (freeN xs i) (2 ^ i - 1) : Nat) : Int)
def lats (xs : List Int) : List Int := fmap (latE xs) xs.length
theorem lats_len (xs : List Int) : (lats xs).length = xs.length := fmap_len _ _
theorem freeN_lt {xs : List Int} (h : xs.length ≤ 10) (i : Nat) : freeN xs i < 1024 := by
  have h1 : 2 ^ xs.length - 1 < 2 ^ 10 := by
    have : 2 ^ xs.length ≤ 2 ^ 10 := Nat.pow_le_pow_right (by omega) h
    have := Nat.two_pow_pos xs.length
    omega
  exact sub_lt h1
theorem lats_flw {xs : List Int} (h : xs.length ≤ 10) : Flw (lats xs) :=
  ⟨by rw [lats_len]; exact h, fun i hi => by
    rw [lats_len] at hi
    have e : nth (lats xs) i = latE xs i := fmap_nth _ hi
    have h2 : sub (freeN xs i) (2 ^ i - 1) < 2 ^ 10 := sub_lt (freeN_lt h i)
    rw [e]
    refine ⟨by unfold latE; omega, by unfold latE; omega, ?_⟩
    unfold latE
    rw [Int.toNat_natCast, testBit_sub, freeN, testBit_sub]
    simp [Nat.testBit_or, testBit_two]⟩
theorem lats_nth {xs : List Int} {i : Nat} (hi : i < xs.length) : (nth (lats xs) i).toNat = sub (freeN xs i) (2 ^ i - 1) := by
  rw [show nth (lats xs) i = latE xs i from fmap_nth _ hi, latE, Int.toNat_natCast]
theorem sub_and (S f m : Nat) : sub (S &&& f) m = S &&& sub f m := by
  apply Nat.eq_of_testBit_eq
  intro i
  rw [testBit_sub, Nat.testBit_and, Nat.testBit_and, testBit_sub, Bool.and_assoc]
/-- what LargestAntichain hands back -/
def antL (n : Int) (xs : List Int) : List Int := if ordB n xs then lng (lats xs) (2 ^ xs.length - 1) else []
theorem antL_len (n : Int) (xs : List Int) : (antL n xs).length ≤ 1048576 := by
  unfold antL
  split
  · rename_i h
    have hp := ord_rel h
    have := lng_len (lats xs) (2 ^ xs.length - 1)
    have h2 : 2 ^ xs.length ≤ 2 ^ 10 := Nat.pow_le_pow_right (by omega) (by have := hp.len; have := hp.n1; omega)
    omega
  · simp
theorem full_nat {n : Nat} (h : n ≤ 10) : ((2 : Int) ^ n - 1) = ((2 ^ n - 1 : Nat) : Int) := by
  have h1 := Nat.two_pow_pos n
  have e : ((2 ^ n : Nat) : Int) = (2 : Int) ^ n := by simp
  omega

/-- the elements that are indifferent to all three -/
def thrS (xs : List Int) (a b c : Nat) : Nat := freeN xs a &&& freeN xs b &&& freeN xs c
def thrC (xs : List Int) (a b c : Nat) : Option (List Int) := findE (thrS xs a b c) (fun d => some (four a b c d))
def thrB (xs : List Int) (a b : Nat) : Option (List Int) := findE (nth xs b).toNat (thrC xs a b)
def thrA (xs : List Int) (a : Nat) : Option (List Int) := findE (nth xs a).toNat (thrB xs a)
/-- the first chain of three elements with one that is indifferent to all of them -/
def thrF (xs : List Int) : Option (List Int) := find1 (thrA xs) xs.length
def thrL (n : Int) (xs : List Int) : List Int := if ordB n xs then (thrF xs).getD [] else []
def thrO (n : Int) (xs : List Int) : Bool := ordB n xs && (thrF xs).isSome
theorem rel_lt {n : Int} {xs : List Int} (hp : RelP n xs) {k : Nat} (hk : k < xs.length) : (nth xs k).toNat < 2 ^ xs.length := by
  apply Nat.lt_of_not_le
  intro h
  obtain ⟨i, hi, hb⟩ := Nat.exists_ge_and_testBit_of_ge_two_pow h
  have := has_lt hp hk (j := i) (by rw [has_bit]; exact hb)
  omega
theorem find_has {α : Type} {n : Int} {xs : List Int} (hp : RelP n xs) {k : Nat} (hk : k < xs.length) (f : Nat → Option α) : findE (nth xs k).toNat f = find1 (fun b => if hasB (nth xs k) b = true then f b else none) xs.length := by
  have h10 : xs.length ≤ 10 := by have := hp.len; have := hp.n1; omega
  rw [findE_eq f (rel_lt hp hk) h10]
  rfl
def NoThr (xs : List Int) (k l m : Nat) : Prop := (∀ a, a < k → thrA xs a = none) ∧ (∀ b : Nat, b < l → hasB (nth xs k) b = true → thrB xs k b = none) ∧ ∀ c : Nat, c < m → hasB (nth xs l) c = true → thrC xs k l c = none
theorem NoThr.c {xs : List Int} {k l m : Nat} (h : NoThr xs k l m) (h1 : hasB (nth xs l) m = true → thrC xs k l m = none) : NoThr xs k l (m+1) :=
  ⟨h.1, h.2.1, fun c hc h2 => by
    by_cases e : c = m
    · subst e; exact h1 h2
    · exact h.2.2 c (by omega) h2⟩
theorem NoThr.b {n : Int} {xs : List Int} {k l : Nat} (hp : RelP n xs) (hl : l < xs.length) (h : NoThr xs k l xs.length) : NoThr xs k (l+1) 0 :=
  ⟨h.1, fun b hb h2 => by
    by_cases e : b = l
    · subst e
      rw [thrB, find_has hp hl]
      refine find1_none (fun c hc => ?_)
      split
      · exact h.2.2 c hc (by assumption)
      · rfl
    · exact h.2.1 b (by omega) h2, fun c hc => by omega⟩
theorem NoThr.skip {xs : List Int} {k l : Nat} (h : NoThr xs k l 0) (h1 : hasB (nth xs k) l = false) : NoThr xs k (l+1) 0 :=
  ⟨h.1, fun b hb h2 => by
    by_cases e : b = l
    · subst e; rw [h1] at h2; cases h2
    · exact h.2.1 b (by omega) h2, fun c hc => by omega⟩
theorem NoThr.a {n : Int} {xs : List Int} {k : Nat} (hp : RelP n xs) (hk : k < xs.length) (h : NoThr xs k xs.length 0) : NoThr xs (k+1) 0 0 :=
  ⟨fun a ha => by
    by_cases e : a = k
    · subst e
      rw [thrA, find_has hp hk]
      refine find1_none (fun c hc => ?_)
      split
      · exact h.2.1 c hc (by assumption)
      · rfl
    · exact h.1 a (by omega), fun b hb => by omega, fun c hc => by omega⟩
theorem NoThr.no {xs : List Int} {l m : Nat} (h : NoThr xs xs.length l m) : thrF xs = none := find1_none h.1
theorem NoThr.yes {n : Int} {xs : List Int} {k l m : Nat} {ys : List Int} (hp : RelP n xs) (h : NoThr xs k l m) (hk : k < xs.length) (hl : l < xs.length) (hm : m < xs.length) (h1 : hasB (nth xs k) l = true) (h2 : hasB (nth xs l) m = true) (h3 : thrC xs k l m = some ys) : thrF xs = some ys := by
  refine find1_some hk ?_ h.1
  rw [thrA, find_has hp hk]
  refine find1_some hl ?_ (fun b hb => ?_)
  · rw [if_pos h1, thrB, find_has hp hl]
    refine find1_some hm (by rw [if_pos h2, h3]) (fun c hc => ?_)
    split
    · exact h.2.2 c hc (by assumption)
    · rfl
  · split
    · exact h.2.1 b hb (by assumption)
    · rfl
theorem thrS_lt {xs : List Int} (h10 : xs.length ≤ 10) (a b c : Nat) : thrS xs a b c < 1024 := Nat.lt_of_le_of_lt Nat.and_le_left (Nat.lt_of_le_of_lt Nat.and_le_left (freeN_lt h10 a))
theorem thrC_zero {xs : List Int} {a b c : Nat} (h : thrS xs a b c = 0) : thrC xs a b c = none := by
  rw [thrC, h]
  exact findE_no (by omega) (fun d hd => by simp at hd)
theorem thrL_4 {xs ys : List Int} (h : thrF xs = some ys) : ys.length = 4 := by
  obtain ⟨a, _, h1, _⟩ := find1_ex h
  have key : ∀ {s : Nat} {f : Nat → Option (List Int)} {y : List Int}, findE s f = some y → ∃ x, f x = some y := by
    intro s f y h
    obtain ⟨x, hx, e⟩ := List.exists_of_findSome?_eq_some h
    exact ⟨x.toNat, e⟩
  obtain ⟨b, h2⟩ := key h1
  obtain ⟨c, h3⟩ := key h2
  obtain ⟨d, h4⟩ := key h3
  simp only [Option.some.injEq] at h4
  rw [← h4]; rfl
theorem thrL_len (n : Int) (xs : List Int) : (thrL n xs).length ≤ 1048576 := by
  unfold thrL
  split
  · cases h : thrF xs with
    | none => simp
    | some ys => have := thrL_4 h; simp; omega
  · simp

/-- do c and d, with b better than a, refuse an interval order? -/
def secB (xs : List Int) (a b c d : Nat) : Bool := hasB (nth xs c) d && !hasB (nth xs c) b && !hasB (nth xs a) d
/-- the first such pair -/
def secF (xs : List Int) (a b : Nat) : Option (Nat × Nat) := find1 (fun c => find1 (fun d => if secB xs a b c d then some (c, d) else none) xs.length) xs.length
def pairF (xs : List Int) (a b : Nat) : Option (List Int) := if hasB (nth xs a) b then (secF xs a b).map (fun p => [(a : Int), (b : Int), (p.1 : Int), (p.2 : Int)]) else none
def twoF (xs : List Int) : Option (List Int) := find1 (fun a => find1 (pairF xs a) xs.length) xs.length
/-- do four elements refuse? -/
def refB (xs : List Int) (a b c d : Nat) : Bool := hasB (nth xs a) b && hasB (nth xs c) d && !hasB (nth xs c) b && !hasB (nth xs a) d
def refF (xs : List Int) (a b c d : Nat) : Option (List Int) := if refB xs a b c d then some [(a : Int), (b : Int), (c : Int), (d : Int)] else none
theorem pairF_ref (xs : List Int) (a b : Nat) : pairF xs a b = find1 (fun c => find1 (refF xs a b c) xs.length) xs.length := by
  unfold pairF secF
  cases h : hasB (nth xs a) b
  · rw [if_neg (by simp)]
    symm
    refine find1_none (fun c _ => find1_none (fun d _ => ?_))
    simp [refF, refB, h]
  · rw [if_pos rfl, ← find1_map]
    refine find1_congr (fun c _ => ?_)
    rw [← find1_map]
    refine find1_congr (fun d _ => ?_)
    have e : refB xs a b c d = secB xs a b c d := by simp [refB, secB, h]
    rw [refF, e]
    cases secB xs a b c d <;> rfl
/-- what TwoTwoOf hands back -/
def twoL (n : Int) (xs : List Int) : List Int := if ordB n xs then (twoF xs).getD [] else []
def twoB (n : Int) (xs : List Int) : Bool := ordB n xs && (twoF xs).isSome
theorem twoF_four {xs ys : List Int} (h : twoF xs = some ys) : ys.length = 4 := by
  obtain ⟨a, _, h1, _⟩ := find1_ex h
  obtain ⟨b, _, h2, _⟩ := find1_ex h1
  unfold pairF at h2
  split at h2
  · cases h3 : secF xs a b with
    | none => rw [h3] at h2; cases h2
    | some p => rw [h3] at h2; simp at h2; rw [← h2]; rfl
  · cases h2
theorem twoL_len (n : Int) (xs : List Int) : (twoL n xs).length ≤ 1048576 := by
  unfold twoL
  split
  · cases h : twoF xs with
    | none => simp
    | some ys => have := twoF_four h; simp; omega
  · simp

/-- are two elements indifferent to each other? -/
def frB (xs : List Int) (a d : Nat) : Bool := (freeN xs a).testBit d
theorem frB_iff {n : Int} {xs : List Int} (hp : RelP n xs) {a d : Nat} (ha : a < xs.length) : frB xs a d = true ↔ d < xs.length ∧ hasB (nth xs a) d = false ∧ hasB (nth xs d) a = false ∧ d ≠ a := by
  unfold frB freeN
  have fb : ∀ n i : Nat, (2 ^ n - 1).testBit i = decide (i < n) := fun n i => Nat.testBit_two_pow_sub_one n i
  rw [testBit_sub, fb, Nat.testBit_or, Nat.testBit_or, belowTo_bit, testBit_two]
  simp only [Bool.and_eq_true, decide_eq_true_eq, Bool.not_eq_true', Bool.or_eq_false_iff, Bool.and_eq_false_iff, decide_eq_false_iff_not]
  constructor
  · rintro ⟨h1, ⟨h2, h3⟩, h4⟩
    refine ⟨h1, h2, ?_, fun e => h4 e.symm⟩
    rcases h3 with h3 | h3
    · exact absurd h1 h3
    · exact h3
  · rintro ⟨h1, h2, h3, h4⟩
    exact ⟨h1, ⟨h2, .inr h3⟩, fun e => h4 e.symm⟩

/-- do two pairs refuse? -/
def twD (xs : List Int) (a b c d : Nat) : Bool := frB xs a d && frB xs c b
def twAny (xs : List Int) : Bool := (List.range xs.length).any fun a => (List.range xs.length).any fun b => hasB (nth xs a) b && (List.range xs.length).any fun c => (List.range xs.length).any fun d => hasB (nth xs c) d && twD xs a b c d
theorem twAny_iff {xs : List Int} : twAny xs = true ↔ ∃ a b c d, a < xs.length ∧ b < xs.length ∧ c < xs.length ∧ d < xs.length ∧ hasB (nth xs a) b = true ∧ hasB (nth xs c) d = true ∧ twD xs a b c d = true := by
  simp only [twAny, List.any_eq_true, List.mem_range, Bool.and_eq_true]
  constructor
  · rintro ⟨a, ha, b, hb, h1, c, hc, d, hd, h2, h3⟩
    exact ⟨a, b, c, d, ha, hb, hc, hd, h1, h2, h3⟩
  · rintro ⟨a, b, c, d, ha, hb, hc, hd, h1, h2, h3⟩
    exact ⟨a, ha, b, hb, h1, c, hc, d, hd, h2, h3⟩
theorem twAny_no {xs : List Int} : twAny xs = false ↔ ∀ a b c d, a < xs.length → b < xs.length → c < xs.length → d < xs.length → hasB (nth xs a) b = true → hasB (nth xs c) d = true → twD xs a b c d = false := by
  rw [← Bool.not_eq_true, twAny_iff]
  constructor
  · intro h a b c d ha hb hc hd h1 h2
    rw [← Bool.not_eq_true]
    exact fun h3 => h ⟨a, b, c, d, ha, hb, hc, hd, h1, h2, h3⟩
  · rintro h ⟨a, b, c, d, ha, hb, hc, hd, h1, h2, h3⟩
    rw [h a b c d ha hb hc hd h1 h2] at h3
    cases h3
theorem ord_irr {n : Int} {xs : List Int} (h : ordB n xs = true) {a : Nat} (ha : a < xs.length) : hasB (nth xs a) a = false := (okAtB_iff.1 ((ordB_iff.1 h).2 a ha)).1
theorem ord_tr {n : Int} {xs : List Int} (h : ordB n xs = true) {a b c : Nat} (ha : a < xs.length) (hb : b < xs.length) (h1 : hasB (nth xs a) b = true) (h2 : hasB (nth xs b) c = true) : hasB (nth xs a) c = true := by
  have := (okAtB_iff.1 ((ordB_iff.1 h).2 a ha)).2 b hb h1
  rw [sub_zero] at this
  exact this c h2
theorem two_some {xs : List Int} : (twoF xs).isSome = true ↔ ∃ a b c d, a < xs.length ∧ b < xs.length ∧ c < xs.length ∧ d < xs.length ∧ refB xs a b c d = true := by
  constructor
  · intro h
    obtain ⟨ys, hy⟩ := Option.isSome_iff_exists.1 h
    obtain ⟨a, ha, h1, _⟩ := find1_ex hy
    obtain ⟨b, hb, h2, _⟩ := find1_ex h1
    rw [pairF_ref] at h2
    obtain ⟨c, hc, h3, _⟩ := find1_ex h2
    obtain ⟨d, hd, h4, _⟩ := find1_ex h3
    refine ⟨a, b, c, d, ha, hb, hc, hd, ?_⟩
    unfold refF at h4
    split at h4
    · assumption
    · cases h4
  · rintro ⟨a, b, c, d, ha, hb, hc, hd, h⟩
    rw [Option.isSome_iff_ne_none]
    intro hn
    have key : ∀ {α : Type} {f : Nat → Option α} {n : Nat}, find1 f n = none → ∀ j, j < n → f j = none := by
      intro α f n h j hj
      rw [find1, List.findSome?_eq_none_iff] at h
      exact h j (by simpa using hj)
    have h1 := key (key hn a ha) b hb
    rw [pairF_ref] at h1
    have h2 := key (key h1 c hc) d hd
    simp [refF, h] at h2
theorem tw_two {n : Int} {xs : List Int} (h : ordB n xs = true) : twAny xs = (twoF xs).isSome := by
  have hp := ord_rel h
  rw [Bool.eq_iff_iff, twAny_iff, two_some]
  constructor
  · rintro ⟨a, b, c, d, ha, hb, hc, hd, h1, h2, h3⟩
    refine ⟨a, b, c, d, ha, hb, hc, hd, ?_⟩
    simp only [twD, Bool.and_eq_true] at h3
    have f1 := (frB_iff hp ha).1 h3.1
    have f2 := (frB_iff hp hc).1 h3.2
    simp [refB, h1, h2, f1.2.1, f2.2.1]
  · rintro ⟨a, b, c, d, ha, hb, hc, hd, h1⟩
    simp only [refB, Bool.and_eq_true, Bool.not_eq_true'] at h1
    obtain ⟨⟨⟨h1, h2⟩, h3⟩, h4⟩ := h1
    refine ⟨a, b, c, d, ha, hb, hc, hd, h1, h2, ?_⟩
    simp only [twD, Bool.and_eq_true]
    refine ⟨(frB_iff hp ha).2 ⟨hd, h4, ?_, ?_⟩, (frB_iff hp hc).2 ⟨hb, h3, ?_, ?_⟩⟩
    · rw [← Bool.not_eq_true]
      intro h5
      rw [ord_tr h hc hd h2 (ord_tr h hd ha h5 h1)] at h3
      cases h3
    · rintro rfl
      rw [ord_tr h hc hd h2 h1] at h3
      cases h3
    · rw [← Bool.not_eq_true]
      intro h5
      rw [ord_tr h ha hb h1 (ord_tr h hb hc h5 h2)] at h4
      cases h4
    · rintro rfl
      rw [ord_tr h ha hb h1 h2] at h4
      cases h4
/-- is an order a semiorder? -/
def semB (n : Int) (xs : List Int) : Bool := ordB n xs && !(thrF xs).isSome && !twAny xs

def stoL (n : Int) (xs : List Int) : List Int := if semB n xs then srt (cnts xs xs.length) else []
theorem sem_ord {n : Int} {xs : List Int} (h : semB n xs = true) : ordB n xs = true := by
  simp only [semB, Bool.and_eq_true] at h
  exact h.1.1
theorem stoL_len (n : Int) (xs : List Int) : (stoL n xs).length ≤ 1048576 := by
  unfold stoL
  split
  · rename_i h
    have hp := ord_rel (sem_ord h)
    have := hp.len
    have := hp.n1
    rw [srt_len, cnts_len]; omega
  · simp

/-- the trace list, as numbers -/
def ints (l : List Nat) : List Int := l.map (fun (i : Nat) => (i : Int))
theorem ints_len (l : List Nat) : (ints l).length = l.length := by simp [ints]
theorem ints_nth {l : List Nat} {k : Nat} (h : k < l.length) : nth (ints l) k = ((l[k] : Nat) : Int) := by
  rw [nth_get _ _ (by rw [ints_len]; exact h)]; simp [ints]
theorem take_tw {α : Type} {p : α → Bool} : ∀ {l : List α} {k : Nat} (hk : k ≤ l.length), (∀ j (h : j < k), p (l[j]'(by omega)) = true) → (∀ h : k < l.length, p l[k] = false) → l.takeWhile p = l.take k ∧ l.dropWhile p = l.drop k
  | [], k, hk, _, _ => by simp at hk; subst hk; simp
  | a :: l, 0, _, _, h2 => by
    have := h2 (by simp)
    simp only [List.getElem_cons_zero] at this
    simp [List.takeWhile_cons, List.dropWhile_cons, this]
  | a :: l, k+1, hk, h1, h2 => by
    have ha := h1 0 (by omega)
    simp only [List.getElem_cons_zero] at ha
    have ih := take_tw (l := l) (k := k) (p := p) (by simpa using hk) (fun j hj => by have := h1 (j+1) (by omega); simpa using this) (fun h => by have := h2 (by simpa using h); simpa using this)
    simp [List.takeWhile_cons, List.dropWhile_cons, ha, ih.1, ih.2]
theorem putT_at {xs : List Int} {out : List Nat} {i k : Nat} (hk : k ≤ out.length) (h1 : ∀ j (h : j < k), befT xs (out[j]'(by omega)) i = true) (h2 : ∀ h : k < out.length, befT xs out[k] i = false) : ints (putT xs out i) = (ints out).take k ++ [(i : Int)] ++ (ints out).drop k := by
  have := take_tw (p := fun a => befT xs a i) hk h1 h2
  unfold putT
  rw [this.1, this.2]
  simp [ints]

theorem orHas_any (s i : Int) (w : World) (h0 : 0 ≤ s) (h1 : s ≤ 9223372036854775807) (hi : 0 ≤ i) :
    Calls Tryd.prog 71 #[.int .i64 s, .int .i64 i] w fun e w' => e = .returned (.bool (hasB s i)) ∧ w = w' := by
  have H := Lib.hid (has_mod h0 h1 hi)
  go_enter Tryd.func71, Tryd.ntmps71
  go_wp2
  go_ret
  exact ⟨ret_bool H.out, rfl⟩

theorem orList_any (s : Int) (w : World) (h0 : 0 ≤ s) (h1 : s < 1024) :
    Calls Tryd.prog 40 #[.int .i64 s] w fun e w' => ∃ a cap, e = .returned (.slice a (elems s.toNat).length cap) ∧ OwnI w' w.heap.size (.slice a (elems s.toNat).length cap) (elems s.toNat) ∧ Below w.heap.size w w' := by
  obtain ⟨S, rfl⟩ := Int.eq_ofNat_of_zero_le h0
  have hS : S < 1024 := by omega
  obtain ⟨i0, hi, hz0, hz1, hz2⟩ := info_parts infoInt
  have hsh : ∀ k : Nat, (S : Int) / 2 ^ min k 64 = ((S >>> k : Nat) : Int) := fun k => shr_nat S k (by omega)
  have HSH := Lib.hid hsh
  clear hsh
  go_enter Tryd.func40, Tryd.ntmps40
  go_wp2_with fail
  go_loopw [3, 4] (fun v i wr => ∃ k : Nat, k ≤ 10 ∧ i = .int .i64 k ∧ wr.ownsRow w.heap.size 3 1 v (elemsTo S k).length ((elemsTo S k).map (Value.int .i64)) ∧ Below w.heap.size w wr) (fun _ i _ => 10 - (intOf i).toNat)
  case atStart => exact ⟨0, by omega, rfl, by simpa [elemsTo] using World.ownsRow_nil _ _ _ _, Below.refl _ _⟩
  case round =>
    obtain ⟨k, hk, rfl, hown, hb⟩ := hrel
    have hln := elemsTo_len S k
    have hsz := hb.size
    have hq := HSH.out k
    rw [show min k 64 = k from by omega] at hq
    by_cases hz : S >>> k = 0
    · have ht : ¬ (0 : Int) < (S : Int) / 2 ^ k := by rw [hq, hz]; omega
      have HZ := Lib.hid hz
      clear hq hz
      go_wp2_with fail
      go_ret
      have e := elems_at HZ.out hk
      rw [e] at hown
      obtain ⟨a, cap, rfl⟩ := OwnI.form hown
      exact ⟨a, cap, rfl, hown, hb⟩
    · have ht : (0 : Int) < (S : Int) / 2 ^ k := by rw [hq]; exact Int.natCast_pos.2 (Nat.pos_of_ne_zero hz)
      have hk9 : k < 10 := by
        rcases Nat.lt_or_ge k 10 with h | h
        · exact h
        · obtain rfl : k = 10 := by omega
          exact absurd (by rw [Nat.shiftRight_eq_div_pow]; exact Nat.div_eq_of_lt (by omega)) hz
      clear hq hz
      have hhas : hasB (S : Int) (k : Int) = S.testBit k := rfl
      cases hin : S.testBit k
      · rw [hin] at hhas
        go_wp2_with (go_at_call 71; refine (orHas_any _ _ _ (by omega) (by omega) (by omega)).mono ?_; rintro e w' ⟨rfl, rfl⟩)
        go_roundw
        case rel => exact ⟨k + 1, by omega, by go_num, by simpa [elemsTo, hin] using hown, hb⟩
        case measure => simp [intOf]; omega
      · rw [hin] at hhas
        go_wp2_with (first | (go_at_call 71; refine (orHas_any _ _ _ (by omega) (by omega) (by omega)).mono ?_; rintro e w' ⟨rfl, rfl⟩) | (at_builtin; refine wpList_append_own _ rfl _ _ 22 rfl w.heap.size 3 i0 (.int .i64 0) 1 8 Tryd.underlying22 hi hz0 hz1 hz2 rfl (by decide) _ _ _ rfl (hown.alloc _) ⟨wr.heap.size, 0, none⟩ 1 1 [.int .i64 k] rfl rfl ?c1 ?c2 ?c3 ?c4 ?c5 ?_))
        case c1 =>
          intro j u hj
          match j, hj with
          | 0, hj => simp at hj; subst hj; simp [Addr.add]
        case c2 => intro u hu; simp at hu; subst hu; rfl
        case c3 => unfold maxLen; omega
        case c4 => omega
        case c5 => simp; omega
        · intro v' w1 hown' hgrow _
          have hlt := World.ownsRow.lt hown
          have hb1 : Below w.heap.size w w1 := (hb.alloc hsz _).grown hgrow (by simp; omega) (fun b e => (hlt b e).1)
          have HO := Lib.hid hown'
          clear hown' hgrow hown
          go_wp2_with fail
          go_roundw
          case rel => exact ⟨k + 1, by omega, by go_num, by simpa [elemsTo, hin] using HO.out, hb1⟩
          case measure => simp [intOf]; omega

theorem seMany_any (s : Int) (w : World) (h0 : 0 ≤ s) (h1 : s < 1024) :
    Calls Tryd.prog 66 #[.int .i64 s] w fun e w' => e = .returned (.int .i64 ((elems s.toNat).length : Int)) ∧ Below w.heap.size w w' := by
  go_enter Tryd.func66, Tryd.ntmps66
  go_wp2_with fail
  refine (orList_any _ _ h0 h1).mono ?_
  rintro e w1 ⟨a1, c1, rfl, ho1, hb1⟩
  clear ho1
  go_wp2_with fail
  go_ret
  exact ⟨rfl, hb1⟩

theorem orBelow_any (n : Int) (a : Option Addr) (xs : List Int) (cap : Nat) (i : Int) (w : World) (hx : Rd w a xs) (hr : RelP n xs) (hi : 0 ≤ i) :
    Calls Tryd.prog 67 #[.agg #[.int .i64 n, .slice a xs.length cap], .int .i64 i] w fun e w' => e = .returned (.int .i64 (belowTo xs i xs.length)) ∧ Below w.heap.size w w' := by
  have hx1 := hx.alloc (.cells #[.int .i64 n, .slice a xs.length cap] 28)
  have hn : xs.length ≤ 10 := by have := hr.len; have := hr.n1; omega
  go_enter Tryd.func67, Tryd.ntmps67
  go_wp2_with fail
  go_loop [5, 11] (fun s i' => ∃ k : Nat, k ≤ xs.length ∧ i' = .int .i64 k ∧ s = .int .i64 (belowTo xs i k)) (fun _ i => xs.length - (intOf i).toNat)
  case atStart => exact ⟨0, Nat.zero_le _, rfl, rfl⟩
  case round =>
    obtain ⟨k, hk, rfl, rfl⟩ := hrel
    by_cases hlt : k < xs.length
    · obtain ⟨b, off, rfl, hbl, hc⟩ := hx1.cell k hlt
      obtain ⟨b', off', e', hbl', hc'⟩ := hx.cell k hlt
      simp only [Option.some.injEq, Addr.mk.injEq, and_true] at e'
      obtain ⟨rfl, rfl⟩ := e'
      have hpk := hr.pos k hlt
      have hsk : nth xs k ≤ 9223372036854775807 := by have := hr.small k hlt; omega
      have hbs := belowTo_small xs i (k := k) (by omega)
      have hor := Lib.hid (or_bit (b := belowTo xs i k) (k := k) (by omega) (by omega))
      clear hbs
      cases hin : hasB (nth xs k) i
      · go_wp2_with (go_at_call 71; refine (orHas_any _ _ _ hpk hsk hi).mono ?_; rintro e w' ⟨rfl, rfl⟩)
        go_round
        case rel => exact ⟨k + 1, by omega, by go_num, by simp [belowTo, hin]⟩
        case measure => simp [intOf]; omega
      · go_wp2_with (go_at_call 71; refine (orHas_any _ _ _ hpk hsk hi).mono ?_; rintro e w' ⟨rfl, rfl⟩)
        go_round
        case rel => exact ⟨k + 1, by omega, by go_num, val_int (by rw [hor.out]; simp [belowTo, hin])⟩
        case measure => simp [intOf]; omega
    · obtain rfl : k = xs.length := by omega
      go_wp2_with fail
      go_ret
      exact ⟨rfl, (by repeat (first | exact Below.refl _ _ | assumption | refine Below.alloc ?_ (by first | exact Nat.le_refl _ | (simp only [World.size_alloc, World.size_setCell, World.size_drew]; omega) | omega) _ | refine Below.setCell ?_ (by first | exact Nat.le_refl _ | (simp only [World.size_alloc, World.size_setCell, World.size_drew]; omega) | omega) _ | refine Below.drew ?_))⟩

theorem ret_boolD {b c : Bool} (h : b = c) : Ending.returned (.bool b) = .returned (.bool c) := by rw [h]
set_option maxRecDepth 100000 in
theorem seBefore_any (n : Int) (a : Option Addr) (xs : List Int) (cap : Nat) (i j : Nat) (w : World) (hx : Rd w a xs) (hp : RelP n xs) (hi : i < xs.length) (hj : j < xs.length) :
    Calls Tryd.prog 79 #[.agg #[.int .i64 n, .slice a xs.length cap], .int .i64 i, .int .i64 j] w fun e w' => e = .returned (.bool (befT xs i j)) ∧ Below w.heap.size w w' := by
  have h10 : xs.length ≤ 10 := by have := hp.len; have := hp.n1; omega
  have i0 : (0 : Int) ≤ (i : Int) := by omega
  have j0 : (0 : Int) ≤ (j : Int) := by omega
  have i1 : (i : Int) < (xs.length : Int) := by omega
  have j1 : (j : Int) < (xs.length : Int) := by omega
  have bi := belowTo_small xs (i : Int) (k := xs.length) h10
  have bj := belowTo_small xs (j : Int) (k := xs.length) h10
  have bi0 : (0 : Int) ≤ ((belowTo xs (i : Int) xs.length : Nat) : Int) := by omega
  have bi1 : ((belowTo xs (i : Int) xs.length : Nat) : Int) < 1024 := by omega
  have bj0 : (0 : Int) ≤ ((belowTo xs (j : Int) xs.length : Nat) : Int) := by omega
  have bj1 : ((belowTo xs (j : Int) xs.length : Nat) : Int) < 1024 := by omega
  have pi := hp.pos i hi
  have si := hp.small i hi
  have pj := hp.pos j hj
  have sj := hp.small j hj
  obtain ⟨ci, hci'⟩ : ∃ c : Int, c = cntB xs i := ⟨_, rfl⟩
  obtain ⟨cj, hcj'⟩ : ∃ c : Int, c = cntB xs j := ⟨_, rfl⟩
  obtain ⟨ai, hai'⟩ : ∃ c : Int, c = cntA xs i := ⟨_, rfl⟩
  obtain ⟨aj, haj'⟩ : ∃ c : Int, c = cntA xs j := ⟨_, rfl⟩
  have HCI : Hid (((elems ((belowTo xs (i : Int) xs.length : Nat) : Int).toNat).length : Int) = ci) := by rw [hci']; rfl
  have HCJ : Hid (((elems ((belowTo xs (j : Int) xs.length : Nat) : Int).toNat).length : Int) = cj) := by rw [hcj']; rfl
  have HAI : Hid (((elems (nth xs i).toNat).length : Int) = ai) := by rw [hai']; rfl
  have HAJ : Hid (((elems (nth xs j).toNat).length : Int) = aj) := by rw [haj']; rfl
  have HB : Hid (befT xs i j = true ↔ ci < cj ∨ (ci = cj ∧ (aj < ai ∨ (ai = aj ∧ i < j)))) := by rw [hci', hcj', hai', haj']; exact befT_iff
  clear hci' hcj' hai' haj'
  clear bi bj
  go_enter Tryd.func79, Tryd.ntmps79
  go_wp2_with fail
  have hB0 : Box2 (w.alloc (.cells #[.int .i64 n, .slice a xs.length cap] 28)) w.heap.size (.int .i64 n) (.slice a xs.length cap) := Box2.new w _ _ _
  obtain ⟨w0, hw0⟩ : ∃ w0, w0 = w.alloc (.cells #[.int .i64 n, .slice a xs.length cap] 28) := ⟨_, rfl⟩
  have bw0 : Below w.heap.size w w0 := by rw [hw0]; exact (by repeat (first | exact Below.refl _ _ | assumption | refine Below.alloc ?_ (by first | exact Nat.le_refl _ | (simp only [World.size_alloc, World.size_setCell, World.size_drew]; omega) | omega) _ | refine Below.setCell ?_ (by first | exact Nat.le_refl _ | (simp only [World.size_alloc, World.size_setCell, World.size_drew]; omega) | omega) _ | refine Below.drew ?_))
  rw [← hw0] at hB0 ⊢
  have ⟨zB, cB, dB⟩ := hB0
  clear hw0
  go_region_held3 (fun w' => w'.cell? ⟨w.heap.size, 0, none⟩ = some (.int .i64 n) ∧ w'.cell? ⟨w.heap.size, 1, none⟩ = some (.slice a xs.length cap))
    (first | exact ⟨A4.2.1, A4.2.2⟩ | exact ⟨A3.2.1, A3.2.2⟩ | exact ⟨A2.2.1, A2.2.2⟩ | exact ⟨A1.2.1, A1.2.2⟩ | go_keep)
    (first | (have _g := ht3; go_at_call 66; refine (seMany_any _ _ bj0 bj1).mono ?_; rw [HCJ.out]; rintro e w4 ⟨rfl, hb4⟩; have ht4 := ht3.trans (hb4.mono ht3.size); have A4 := A3.below hb4) | (have _g := ht2; go_at_call 67; refine (orBelow_any _ _ _ _ _ _ (hx.below bw2) hp j0).mono ?_; rintro e w3 ⟨rfl, hb3⟩; have ht3 := ht2.trans (hb3.mono ht2.size); have A3 := A2.below hb3) | (have _g := ht1; go_at_call 66; refine (seMany_any _ _ bi0 bi1).mono ?_; rw [HCI.out]; rintro e w2 ⟨rfl, hb2⟩; have ht2 := ht1.trans (hb2.mono ht1.size); have A2 := A1.below hb2; have bw2 := bw0.trans (ht2.mono bw0.size)) | (go_at_call 67; refine (orBelow_any _ _ _ _ _ _ (hx.below (bw0.trans (Joins.below_draws _ _ _))) hp i0).mono ?_; rintro e w1 ⟨rfl, hb1⟩; have ht1 : Below w0.heap.size w0 w1 := (Joins.below_draws _ _ _).trans hb1; have A1 := hB0.below ht1))
  have bw4 := bw0.trans (ht4.mono bw0.size)
  clear hb1 hb2 hb3 hb4 A1 A2 A3 bw2 ht1 ht2 ht3 ht4 cB dB zB hB0
  have ⟨zB, cB, dB⟩ := A4
  obtain ⟨b, off, rfl, hbl, hci⟩ := (hx.below bw4).cell i hi
  obtain ⟨b', off', e', hbl', hcj⟩ := (hx.below bw4).cell j hj
  simp only [Option.some.injEq, Addr.mk.injEq, and_true] at e'
  obtain ⟨rfl, rfl⟩ := e'
  go_wp2_with fail
  go_region_held3 (fun w' => w'.cell? ⟨w.heap.size, 0, none⟩ = some (.int .i64 n) ∧ w'.cell? ⟨w.heap.size, 1, none⟩ = some (.slice (some ⟨b, off, none⟩) xs.length cap) ∧ w'.cell? ⟨b, off + i, none⟩ = some (.int .i64 (nth xs i)) ∧ w'.cell? ⟨b, off + j, none⟩ = some (.int .i64 (nth xs j)))
    (first | exact ⟨A6.2.1, A6.2.2, ri6, rj6⟩ | exact ⟨A5.2.1, A5.2.2, ri5, rj5⟩ | go_keep)
    (first | (have _g := ht5; go_at_call 66; refine (seMany_any _ _ pj sj).mono ?_; rw [HAJ.out]; rintro e w6 ⟨rfl, hb6⟩; have ht6 := ht5.trans (hb6.mono ht5.size); have A6 := A5.below hb6; have ri6 := (hb6.cell (p := ⟨b, off + i, none⟩) rb5).trans ri5; have rj6 := (hb6.cell (p := ⟨b, off + j, none⟩) rb5).trans rj5) | (go_at_call 66; refine (seMany_any _ _ pi si).mono ?_; rw [HAI.out]; rintro e w5 ⟨rfl, hb5⟩; have ht5 : Below w4.heap.size w4 w5 := (Joins.below_draws _ _ _).trans hb5; have A5 := A4.below ht5; have ri5 := (ht5.cell (p := ⟨b, off + i, none⟩) hbl).trans hci; have rj5 := (ht5.cell (p := ⟨b, off + j, none⟩) hbl).trans hcj; have rb5 : b < w5.heap.size := Nat.lt_of_lt_of_le hbl ht5.size))
  have bw6 := bw4.trans (ht6.mono bw4.size)
  clear hb5 hb6 A5 A6 ri5 rj5 ri6 rj6 rb5 ht5 ht6 cB dB zB A4 bw4 hci hcj
  by_cases hc : ci = cj
  · have hc' : (ci != cj) = false := by simp [hc]
    by_cases ha : ai = aj
    · have ha' : (ai != aj) = false := by simp [ha]
      have HF : Hid (befT xs i j = decide (i < j)) := by
        rw [Hid, Bool.eq_iff_iff, HB.out, decide_eq_true_eq]; omega
      have HC := Lib.hid hc
      have HA := Lib.hid ha
      clear hc ha
      go_wp2_with fail
      go_ret
      exact ⟨ret_boolD HF.out.symm, bw6⟩
    · have ha' : (ai != aj) = true := by simp [ha]
      have HF : Hid (befT xs i j = decide (aj < ai)) := by
        rw [Hid, Bool.eq_iff_iff, HB.out, decide_eq_true_eq]; omega
      have HC := Lib.hid hc
      clear hc ha
      go_wp2_with fail
      go_ret
      exact ⟨ret_boolD HF.out.symm, bw6⟩
  · have hc' : (ci != cj) = true := by simp [hc]
    have HF : Hid (befT xs i j = decide (ci < cj)) := by
      rw [Hid, Bool.eq_iff_iff, HB.out, decide_eq_true_eq]; omega
    clear hc
    go_wp2_with fail
    go_ret
    exact ⟨ret_boolD HF.out.symm, bw6⟩

theorem wpList_append_none {P : Program} {w : World} {ops : Array Oper} {rest : List Oper} {o : Oper} {a : Act} {Q : Exit → Act → World → Prop} (hgd : o.guard = none) (s x : Operand) (t : TypeId)
    (ho : o.op = .call { callee := .builtin .append, args := #[s, x], argTypes := #[t, t] })
    (base : Nat) (e : TypeId) (i : TypeInfo) (size : Nat) (ht : P.underlying t = some (.slice e)) (hi : P.info? e = some i)
    (v : Value) (n c : Nat) (xs : List Value) (hs : a.eval s = v) (hown : w.ownsRow base e size v n xs) (hx : a.eval x = .slice none 0 c)
    (h : wpList P ops Q rest (a.put o.dst v) w) : wpList P ops Q (o :: rest) a w := by
  refine wpList_plain hgd fun K hK => ?_
  have hrun : (Builtin.append_ #[t, t] o.type #[v, .slice none 0 c]).run P w = .ok v w := by
    rcases hown.2 with ⟨rfl, rfl⟩ | ⟨g, cap, cur, rfl, _, _, hnc, _⟩
    · simp [Builtin.append_, run_underlying ht, sizeOf, typeInfo, hi, Builtin.lenOf, Builtin.firstCells]
    · simp [Builtin.append_, run_underlying ht, sizeOf, typeInfo, hi, Builtin.lenOf, Builtin.firstCells, hnc, storeCells]
  unfold Oper.wp
  simp [execOp, ho, resolve, invoke, builtin, hs, hx, hrun, Result.andThen]
  exact hK _ _ h
theorem rd_news {w : World} {ad : Addr} {xs : List Int} (hx : Rd w (some ad) xs) : ∀ j u, (xs.map (Value.int .i64))[j]? = some u → w.cell? (ad.add j) = some u := by
  intro j u hj
  rw [List.getElem?_map, Option.map_eq_some_iff] at hj
  obtain ⟨x, hx1, rfl⟩ := hj
  obtain ⟨hlt, e⟩ := List.getElem?_eq_some_iff.1 hx1
  obtain ⟨b, off, e1, _, hc⟩ := hx.cell j hlt
  simp only [Option.some.injEq] at e1
  subst e1
  rw [Addr.add_lit, hc, nth_get xs j hlt, e]
theorem ints_one (xs : List Int) : ∀ u ∈ xs.map (Value.int .i64), u.oneCell' = true := by
  intro u hu
  obtain ⟨x, _, rfl⟩ := List.mem_map.1 hu
  rfl

theorem l1Own_any (a : Option Addr) (xs : List Int) (cap : Nat) (w : World) (hx : Rd w a xs) (hn : xs.length ≤ 1048576) :
    Calls Tryd.prog 80 #[.slice a xs.length cap] w fun e w' => ∃ a' cap', e = .returned (.slice a' xs.length cap') ∧ OwnI w' w.heap.size (.slice a' xs.length cap') xs ∧ Below w.heap.size w w' := by
  obtain ⟨i0, hi, hz0, hz1, hz2⟩ := info_parts infoInt
  have hown : (w.alloc (.cells #[] 3)).ownsRow w.heap.size 3 1 (.slice (some ⟨w.heap.size, 0, none⟩) 0 0) 0 [] := World.ownsRow_lit w #[] 0 (Nat.le_refl _) (by simp [maxLen]) (by simp)
  cases a with
  | none =>
    have h0 : xs = [] := by
      rcases xs with _ | ⟨x, t⟩
      · rfl
      · obtain ⟨b, off, e, _⟩ := hx.cell 0 (by simp)
        cases e
    subst h0
    go_enter Tryd.func80, Tryd.ntmps80
    go_wp2_with (at_builtin; refine wpList_append_none rfl _ _ 22 rfl w.heap.size 3 i0 1 Tryd.underlying22 hi _ 0 _ [] rfl hown rfl ?_)
    go_wp2_with fail
    go_ret
    exact ⟨_, _, rfl, hown, (by repeat (first | exact Below.refl _ _ | assumption | refine Below.alloc ?_ (by first | exact Nat.le_refl _ | (simp only [World.size_alloc, World.size_setCell, World.size_drew]; omega) | omega) _ | refine Below.setCell ?_ (by first | exact Nat.le_refl _ | (simp only [World.size_alloc, World.size_setCell, World.size_drew]; omega) | omega) _ | refine Below.drew ?_))⟩
  | some ad =>
    have hx1 := hx.alloc (.cells #[] 3)
    go_enter Tryd.func80, Tryd.ntmps80
    go_wp2_with (at_builtin; refine wpList_append_own _ rfl _ _ 22 rfl w.heap.size 3 i0 (.int .i64 0) 1 8 Tryd.underlying22 hi hz0 hz1 hz2 rfl (by decide) _ 0 [] rfl hown ad xs.length cap (xs.map (Value.int .i64)) rfl (by simp) ?c1 ?c2 ?c3 ?c4 ?c5 ?_)
    case c1 => exact rd_news hx1
    case c2 => exact ints_one xs
    case c3 => unfold maxLen; omega
    case c4 => omega
    case c5 => simp
    · intro v' w1 hown' hgrow _
      try simp only [Nat.zero_add, List.nil_append] at hown'
      have hb : Below w.heap.size w w1 := ((Below.refl _ _).alloc (Nat.le_refl _) _).grown hgrow (by simp) (fun b e => by simp [Value.ownBlock] at e; omega)
      obtain ⟨a', cap', rfl⟩ := OwnI.form (xs := xs) hown'
      have HO := Lib.hid hown'
      clear hown' hgrow hown
      go_wp2_with fail
      go_ret
      exact ⟨a', cap', rfl, HO.out, hb⟩

theorem wpList_append_rd {w : World} {ops : Array Oper} {rest : List Oper} {o : Oper} {a : Act} {Q : Exit → Act → World → Prop} (hgd : o.guard = none) (s x : Operand)
    (ho : o.op = .call { callee := .builtin .append, args := #[s, x], argTypes := #[22, 22] })
    (base : Nat) (v : Value) (zs : List Int) (hs : a.eval s = v) (hown : OwnI w base v zs) (ad : Option Addr) (xs : List Int) (cap : Nat) (hx : a.eval x = .slice ad xs.length cap) (hr : Rd w ad xs)
    (hsm : zs.length + xs.length ≤ 1000) (hbase : base ≤ w.heap.size)
    (h : ∀ v' w', OwnI w' base v' (zs ++ xs) → w.grownBy w' v.ownBlock → wpList Tryd.prog ops Q rest (a.put o.dst v') w') : wpList Tryd.prog ops Q (o :: rest) a w := by
  obtain ⟨i0, hi, hz0, hz1, hz2⟩ := info_parts infoInt
  cases ad with
  | none =>
    have h0 : xs = [] := by
      rcases xs with _ | ⟨y, t⟩
      · rfl
      · obtain ⟨b, off, e, _⟩ := hr.cell 0 (by simp)
        cases e
    subst h0
    exact wpList_append_none hgd s x 22 ho base 3 i0 1 Tryd.underlying22 hi v zs.length cap (zs.map (Value.int .i64)) hs hown hx (h v w (by rw [List.append_nil]; exact hown) (World.grownBy.refl _ _))
  | some ad =>
    refine wpList_append_own _ hgd s x 22 ho base 3 i0 (.int .i64 0) 1 8 Tryd.underlying22 hi hz0 hz1 hz2 rfl (by decide) v zs.length (zs.map (Value.int .i64)) hs hown ad xs.length cap (xs.map (Value.int .i64)) hx (by simp) (rd_news hr) (ints_one xs) (by unfold maxLen; omega) (by omega) hbase ?_
    intro v' w' h1 h2 _
    refine h v' w' ?_ h2
    unfold OwnI
    rw [List.length_append, List.map_append]
    exact h1

theorem OwnI.capLe {w : World} {B n cap : Nat} {a : Option Addr} {xs : List Int} (h : OwnI w B (.slice a n cap) xs) : n ≤ cap := by
  rcases h.2 with ⟨e, _⟩ | ⟨g, cap', cur, e, _, _, hc, _⟩
  · simp only [Value.slice.injEq] at e
    omega
  · simp only [Value.slice.injEq] at e
    omega
theorem Rd.take {w : World} {a : Option Addr} {xs : List Int} (h : Rd w a xs) (k : Nat) : Rd w a (xs.take k) :=
  ⟨Nat.le_trans (by rw [List.length_take]; exact Nat.min_le_right _ _) h.len, fun j hj => by
    have hj' : j < xs.length ∧ j < k := by rw [List.length_take] at hj; omega
    obtain ⟨b, off, e, hl, hc⟩ := h.cell j hj'.1
    refine ⟨b, off, e, hl, hc.trans ?_⟩
    simp [nth, List.getD_eq_getElem?_getD, List.getElem?_take, hj'.2]⟩

theorem Rd.drop {w : World} {ad : Addr} {xs : List Int} (h : Rd w (some ad) xs) (k : Nat) : Rd w (some (ad.add k)) (xs.drop k) :=
  ⟨Nat.le_trans (by rw [List.length_drop]; omega) h.len, fun j hj => by
    have hj' : k + j < xs.length := by rw [List.length_drop] at hj; omega
    obtain ⟨b, off, e, hl, hc⟩ := h.cell (k + j) hj'
    simp only [Option.some.injEq] at e
    subst e
    refine ⟨b, off + k, by rw [Addr.add_lit], hl, ?_⟩
    rw [Nat.add_assoc, hc]
    simp [nth, List.getD_eq_getElem?_getD, List.getElem?_drop]⟩

theorem rd_nil (w : World) (a : Option Addr) : Rd w a [] := ⟨by simp, fun k hk => by simp at hk⟩
set_option maxRecDepth 100000 in
set_option maxHeartbeats 1000000 in
theorem seTrace_any (n : Int) (a : Option Addr) (xs : List Int) (cap : Nat) (w : World) (hx : Rd w a xs) (hp : RelP n xs) :
    Calls Tryd.prog 48 #[.agg #[.int .i64 n, .slice a xs.length cap]] w fun e w' => ∃ a' cap', e = .returned (.slice a' xs.length cap') ∧ OwnI w' w.heap.size (.slice a' xs.length cap') (ints (trT xs xs.length)) ∧ Below w.heap.size w w' := by
  have h10 : xs.length ≤ 10 := by have := hp.len; have := hp.n1; omega
  obtain rfl : n = (xs.length : Int) := hp.len.symm
  obtain ⟨i0, hi, hz0, hz1, hz2⟩ := info_parts infoInt
  go_enter Tryd.func48, Tryd.ntmps48
  go_wp2_with fail
  go_loopw [3, 4] (fun v i' wr => ∃ i : Nat, i ≤ xs.length ∧ i' = .int .i64 i ∧ OwnI wr (w.heap.size + 1) v (ints (trT xs i)) ∧ Below w.heap.size w wr ∧ Box2 wr w.heap.size (.int .i64 (xs.length : Int)) (.slice a xs.length cap)) (fun _ i' _ => xs.length - (intOf i').toNat)
  case atStart => exact ⟨0, Nat.zero_le _, rfl, OwnI.nil _ _, (by repeat (first | exact Below.refl _ _ | assumption | refine Below.alloc ?_ (by first | exact Nat.le_refl _ | (simp only [World.size_alloc, World.size_setCell, World.size_drew]; omega) | omega) _ | refine Below.setCell ?_ (by first | exact Nat.le_refl _ | (simp only [World.size_alloc, World.size_setCell, World.size_drew]; omega) | omega) _ | refine Below.drew ?_)), Box2.new w _ _ _⟩
  case round =>
    obtain ⟨i, hil, rfl, hown, hb, hB⟩ := hrel
    obtain ⟨wo, rfl⟩ : ∃ wo : World, wo = wr := ⟨_, rfl⟩
    have ⟨zr, cr, dr⟩ := hB
    by_cases hlt : i < xs.length
    · have i1 : (i : Int) < (xs.length : Int) := by omega
      have hOl : (ints (trT xs i)).length = i := by rw [ints_len, trT_len]
      have hlt' : ∀ j (h : j < (trT xs i).length), (trT xs i)[j] < i := fun j h => trT_lt (List.getElem_mem h)
      have hPAT : ∀ k (hk : k ≤ i), (∀ j (h : j < k), befT xs ((trT xs i)[j]'(by rw [trT_len]; omega)) i = true) → (∀ h : k < i, befT xs ((trT xs i)[k]'(by rw [trT_len]; exact h)) i = false) → ints (trT xs (i+1)) = (ints (trT xs i)).take k ++ [(i : Int)] ++ (ints (trT xs i)).drop k := fun k hk h1 h2 => putT_at (by rw [trT_len]; exact hk) h1 (fun h => h2 (by rw [trT_len] at h; exact h))
      obtain ⟨O, hO⟩ : ∃ O, O = ints (trT xs i) := ⟨_, rfl⟩
      obtain ⟨E, hE⟩ : ∃ E : Nat → Nat, E = fun j => (trT xs i).getD j 0 := ⟨_, rfl⟩
      have hEO : ∀ j, j < i → nth O j = ((E j : Nat) : Int) ∧ E j < i := fun j hj => by
        have hjl : j < (trT xs i).length := by rw [trT_len]; exact hj
        have e : E j = (trT xs i)[j] := by rw [hE]; simp [hjl]
        rw [e, hO, ints_nth hjl]
        exact ⟨rfl, hlt' j hjl⟩
      have hPAT2 : ∀ k, k ≤ i → (∀ j, j < k → befT xs (E j) i = true) → (k < i → befT xs (E k) i = false) → ints (trT xs (i+1)) = O.take k ++ [(i : Int)] ++ O.drop k := fun k hk h1 h2 => by
        rw [hO]
        have e : ∀ j (hj : j < i), E j = (trT xs i)[j]'(by rw [trT_len]; exact hj) := fun j hj => by
          have hjl : j < (trT xs i).length := by rw [trT_len]; exact hj
          rw [hE]; simp [hjl]
        exact hPAT k hk (fun j h => by rw [← e j (by omega)]; exact h1 j h) (fun h => by rw [← e k h]; exact h2 h)
      rw [← hO] at hown hOl
      have HEO := Lib.hid hEO
      have HPAT := Lib.hid hPAT2
      clear hO hE hEO hPAT hPAT2 hlt'
      obtain ⟨av, cv, rfl⟩ := hown.form
      rw [hOl] at hown
      have HOL := Lib.hid hOl
      have hcap := hown.capLe
      rw [hOl]
      clear hOl
      go_wp2_with fail
      clear cr dr
      go_loopw [5] (fun k' wr => ∃ k : Nat, k ≤ i ∧ k' = .int .i64 k ∧ (∀ j, j < k → befT xs (E j) i = true) ∧ Below wo.heap.size wo wr) (fun k' _ => i - (intOf k').toNat)
      case atStart => exact ⟨0, Nat.zero_le _, rfl, fun j hj => by omega, Below.refl _ _⟩
      case round =>
        obtain ⟨k, hk, rfl, hall, hbk⟩ := hrel
        have HK := Lib.hid hall
        have hBk := hB.below hbk
        have ⟨zB, cB, dB⟩ := hBk
        have hok := hown.below hbk (Nat.le_refl _)
        have bwk := hb.trans (hbk.mono hb.size)
        clear hall
        by_cases hkl : k < i
        · obtain ⟨f1, f2⟩ := HEO.out k hkl
          obtain ⟨g, e0, hgB, hgs⟩ := hok.head (by rw [HOL.out]; omega)
          subst e0
          obtain ⟨b, off, e1, hbl, hc⟩ := hok.rd.cell k (by rw [HOL.out]; exact hkl)
          simp only [Option.some.injEq, Addr.mk.injEq, and_true] at e1
          obtain ⟨rfl, rfl⟩ := e1
          rw [f1, Nat.zero_add] at hc
          have k1 : (k : Int) < (i : Int) := by omega
          have HF1 := Lib.hid f1
          have hEk : E k < xs.length := by omega
          clear f1
          cases hbf : befT xs (E k) i
          · have HBF := Lib.hid hbf
            have hput := HPAT.out k hk HK.out (fun _ => hbf)
            have HPUT0 := Lib.hid hput
            clear hbf hput
            go_wp2_with fail
            go_region_held3 (fun w' => w'.cell? ⟨w.heap.size, 0, none⟩ = some (.int .i64 (xs.length : Int)) ∧ w'.cell? ⟨w.heap.size, 1, none⟩ = some (.slice a xs.length cap) ∧ w'.cell? ⟨g, k, none⟩ = some (.int .i64 ((E k : Nat) : Int)))
              (first | exact ⟨B4.2.1, B4.2.2, ck4⟩ | go_keep)
              (first | (go_at_call 79; refine (seBefore_any _ _ _ _ (E k) i _ (hx.below (bwk.trans (Joins.below_draws _ _ _))) hp hEk hlt).mono ?_; rw [HBF.out]; rintro e w4 ⟨rfl, hb4⟩; have ht4 : Below wr.heap.size wr w4 := (Joins.below_draws _ _ _).trans hb4; have B4 := hBk.below ht4; have ck4 := (ht4.cell (p := ⟨g, k, none⟩) hgs).trans hc))
            all_goals
              have o4 := hok.below ht4 (Nat.le_refl _)
              have bwr := bwk.trans (ht4.mono bwk.size)
              have hzr : w.heap.size + 1 ≤ w4.heap.size := by have := o4.lt g rfl; omega
              have hrd4 := o4.rd
              obtain ⟨T, hT⟩ : ∃ T, T = O.take k := ⟨_, rfl⟩
              obtain ⟨D, hD⟩ : ∃ D, D = O.drop k := ⟨_, rfl⟩
              have HTl := Lib.hid (show T.length = k by rw [hT, List.length_take, HOL.out]; omega)
              have HDl := Lib.hid (show D.length = i - k by rw [hD, List.length_drop, HOL.out])
              have HTr : Hid (Rd w4 (some ⟨g, 0, none⟩) T) := by rw [hT]; exact hrd4.take k
              have HDr : Hid (Rd w4 (some ⟨g, k, none⟩) D) := by have h := hrd4.drop k; rw [Addr.add_lit, Nat.zero_add] at h; rw [hD]; exact h
              have HPUT : Hid (ints (trT xs (i + 1)) = T ++ [(i : Int)] ++ D) := by rw [hT, hD]; exact HPUT0.out
              have hkc : k < cv := by omega
              have hkc2 : k ≤ cv := by omega
              have hBB := B4
              clear hT hD hrd4 o4 hok hc ck4 hb4
              have hown1 := l1Own_any (some ⟨g, 0, none⟩) T cv w4 HTr.out (by rw [HTl.out]; omega)
              rw [HTl.out] at hown1
              have HO1 := Lib.hid hown1
              clear hown1
              go_wp2_with fail
              refine HO1.out.mono ?_
              rintro e w1 ⟨a1, cap1, rfl, ho1, hb1⟩
              have zw1 := hb1.size
              go_wp2_with (at_builtin; refine wpList_append_own _ rfl _ _ 22 rfl w4.heap.size 3 i0 (.int .i64 0) 1 8 Tryd.underlying22 hi hz0 hz1 hz2 rfl (by decide) (.slice a1 k cap1) k (T.map (Value.int .i64)) rfl (by have h := ho1.alloc (.cells #[.int .i64 (i : Int)] 3); unfold OwnI at h; rw [HTl.out] at h; exact h) ⟨w1.heap.size, 0, none⟩ 1 1 [.int .i64 (i : Int)] rfl rfl (cell_one_new _ _ _) (by intro u hu; simp at hu; subst hu; rfl) (by unfold maxLen; omega) (by omega) (by simp; omega) ?_)
              intro v2 w2 ho2 hg2 _
              have hb2 : Below w4.heap.size w4 w2 := hb1.trans (below_of_grown (grown_alloc_set hg2) (fun b e => (ho1.lt b e).1) zw1)
              have ho2' : OwnI w2 w4.heap.size v2 (T ++ [(i : Int)]) := by
                unfold OwnI
                rw [List.length_append, HTl.out, List.map_append]
                exact ho2
              obtain ⟨a2, cap2, rfl⟩ := ho2'.form
              have HO2 := Lib.hid ho2'
              have HDr2 := Lib.hid (HDr.out.below hb2)
              have HS2 : Hid ((T ++ [(i : Int)]).length + D.length ≤ 1000) := by rw [Hid, List.length_append, HTl.out, List.length_singleton, HDl.out]; omega
              have hl2 : (T ++ [(i : Int)]).length = k + 1 := by rw [List.length_append, HTl.out, List.length_singleton]
              rw [hl2]
              have hz2' := hb2.size
              clear ho2 hg2 ho1 hb1 ho2' hl2
              go_wp2_with (at_builtin; refine wpList_append_rd rfl _ _ rfl w4.heap.size (.slice a2 (k + 1) cap2) (T ++ [(i : Int)]) rfl (by have h := HO2.out; rw [List.length_append, HTl.out, List.length_singleton] at h; exact h) (some ⟨g, k, none⟩) D (cv - k) (by rw [HDl.out]; rfl) HDr2.out HS2.out hz2' ?_)
              intro v3 w3 ho3 hg3
              have hb3 : Below w4.heap.size w4 w3 := hb2.trans (below_of_grown hg3 (fun b e => by have h := HO2.out; rw [List.length_append, HTl.out, List.length_singleton] at h; exact (h.lt b e).1) hb2.size)
              have ho4 : OwnI w3 (w.heap.size + 1) v3 (ints (trT xs (i + 1))) := by
                rw [HPUT.out]
                simpa using ho3.mono hzr
              have bw3 := bwr.trans (hb3.mono bwr.size)
              have B3 := hBB.below hb3
              have HO4 := Lib.hid ho4
              clear ho3 hg3 ho4 HO2 hb2 hb3 hz2' HDr2 HS2
              go_wp2_with fail
              go_roundw
              case rel => exact ⟨i + 1, by omega, by go_num, HO4.out, bw3, B3⟩
              case measure => simp [intOf]; omega
          · have HBF := Lib.hid hbf
            clear hbf
            go_wp2_with fail
            go_region_held3 (fun w' => w'.cell? ⟨w.heap.size, 0, none⟩ = some (.int .i64 (xs.length : Int)) ∧ w'.cell? ⟨w.heap.size, 1, none⟩ = some (.slice a xs.length cap) ∧ w'.cell? ⟨g, k, none⟩ = some (.int .i64 ((E k : Nat) : Int)))
              (first | exact ⟨B4.2.1, B4.2.2, ck4⟩ | go_keep)
              (first | (go_at_call 79; refine (seBefore_any _ _ _ _ (E k) i _ (hx.below (bwk.trans (Joins.below_draws _ _ _))) hp hEk hlt).mono ?_; rw [HBF.out]; rintro e w4 ⟨rfl, hb4⟩; have ht4 : Below wr.heap.size wr w4 := (Joins.below_draws _ _ _).trans hb4; have B4 := hBk.below ht4; have ck4 := (ht4.cell (p := ⟨g, k, none⟩) hgs).trans hc))
            all_goals
              go_wp2_with fail
              go_roundw
              case rel =>
                refine ⟨k + 1, by omega, by go_num, fun j hj => ?_, hbk.trans (ht4.mono hbk.size)⟩
                by_cases e : j = k
                · rw [e]; exact HBF.out
                · exact HK.out j (by omega)
              case measure => simp [intOf]; omega
        · obtain rfl : k = i := by omega
          have bwr := bwk
          have hBB := hBk
          have hrdk := hok.rd
          have hput := HPAT.out k (Nat.le_refl _) HK.out (fun h => absurd h (Nat.lt_irrefl _))
          have e1 : O.take k = O := List.take_of_length_le (by rw [HOL.out]; exact Nat.le_refl _)
          have e2 : O.drop k = [] := List.drop_eq_nil_of_le (by rw [HOL.out]; exact Nat.le_refl _)
          rw [e1, e2] at hput
          obtain ⟨T, hT⟩ : ∃ T, T = O := ⟨_, rfl⟩
          obtain ⟨D, hD⟩ : ∃ D : List Int, D = [] := ⟨_, rfl⟩
          have HTl := Lib.hid (show T.length = k by rw [hT]; exact HOL.out)
          have HDl := Lib.hid (show D.length = 0 by rw [hD]; rfl)
          have HTr : Hid (Rd wr av T) := by rw [hT]; exact hrdk
          have HPUT : Hid (ints (trT xs (k + 1)) = T ++ [(k : Int)] ++ D) := by rw [hT, hD]; exact hput
          have HDR : Hid (∀ (w' : World) (ad : Option Addr), Rd w' ad D) := fun w' ad => by rw [hD]; exact rd_nil w' ad
          have hko : ¬ (k : Int) < (k : Int) := by omega
          have hzw : w.heap.size + 1 ≤ wr.heap.size := by omega
          clear hT hD hput e1 e2 hrdk cB dB
          rcases hok.2 with ⟨e0, h0⟩ | ⟨g, cap', cur, e0, hbg, hgg, hn0, hm0, hs0, ht0⟩
          · simp only [Value.slice.injEq] at e0
            obtain ⟨rfl, -, rfl⟩ := e0
            obtain rfl : k = 0 := by rw [← HOL.out]; simpa using h0
            have hzr := hzw
            have HDr : Hid (Rd wr none D) := HDR.out _ _
            clear h0 hok
            go_wp2_with fail
            go_region
            all_goals
              obtain ⟨w4, hw4⟩ : ∃ w4, w4 = wr.drew := ⟨_, rfl⟩
              have ht4 : Below wr.heap.size wr w4 := by rw [hw4]; exact (Below.refl _ _).drew
              rw [← hw4]
              have HTr := Lib.hid (HTr.out.below ht4)
              have HDr : Hid (Rd w4 none D) := HDR.out _ _
              have bwr := bwr.trans (ht4.mono bwr.size)
              have hBB := hBB.below ht4
              have hzr : w.heap.size + 1 ≤ w4.heap.size := Nat.le_trans hzw ht4.size
              clear hw4 ht4
              have hown1 := l1Own_any none T 0 w4 HTr.out (by rw [HTl.out]; omega)
              rw [HTl.out] at hown1
              have HO1 := Lib.hid hown1
              clear hown1
              go_wp2_with fail
              refine HO1.out.mono ?_
              rintro e w1 ⟨a1, cap1, rfl, ho1, hb1⟩
              have zw1 := hb1.size
              go_wp2_with (at_builtin; refine wpList_append_own _ rfl _ _ 22 rfl w4.heap.size 3 i0 (.int .i64 0) 1 8 Tryd.underlying22 hi hz0 hz1 hz2 rfl (by decide) (.slice a1 0 cap1) 0 (T.map (Value.int .i64)) rfl (by have h := ho1.alloc (.cells #[.int .i64 (((0 : Nat) : Nat) : Int)] 3); unfold OwnI at h; rw [HTl.out] at h; exact h) ⟨w1.heap.size, 0, none⟩ 1 1 [.int .i64 (((0 : Nat) : Nat) : Int)] rfl rfl (cell_one_new _ _ _) (by intro u hu; simp at hu; subst hu; rfl) (by unfold maxLen; omega) (by omega) (by simp; omega) ?_)
              intro v2 w2 ho2 hg2 _
              have hb2 : Below w4.heap.size w4 w2 := hb1.trans (below_of_grown (grown_alloc_set hg2) (fun b e => (ho1.lt b e).1) zw1)
              have ho2' : OwnI w2 w4.heap.size v2 (T ++ [(((0 : Nat) : Nat) : Int)]) := by
                unfold OwnI
                rw [List.length_append, HTl.out, List.map_append]
                exact ho2
              obtain ⟨a2, cap2, rfl⟩ := ho2'.form
              have HO2 := Lib.hid ho2'
              have HDr2 := Lib.hid (HDr.out.below hb2)
              have HS2 : Hid ((T ++ [(((0 : Nat) : Nat) : Int)]).length + D.length ≤ 1000) := by rw [Hid, List.length_append, HTl.out, List.length_singleton, HDl.out]; omega
              have hl2 : (T ++ [(((0 : Nat) : Nat) : Int)]).length = 0 + 1 := by rw [List.length_append, HTl.out, List.length_singleton]
              rw [hl2]
              have hz2' := hb2.size
              clear ho2 hg2 ho1 hb1 ho2' hl2
              go_wp2_with (at_builtin; refine wpList_append_rd rfl _ _ rfl w4.heap.size (.slice a2 (0 + 1) cap2) (T ++ [(((0 : Nat) : Nat) : Int)]) rfl (by have h := HO2.out; rw [List.length_append, HTl.out, List.length_singleton] at h; exact h) none D 0 (by rw [HDl.out]; rfl) HDr2.out HS2.out hz2' ?_)
              intro v3 w3 ho3 hg3
              have hb3 : Below w4.heap.size w4 w3 := hb2.trans (below_of_grown hg3 (fun b e => by have h := HO2.out; rw [List.length_append, HTl.out, List.length_singleton] at h; exact (h.lt b e).1) hb2.size)
              have ho4 : OwnI w3 (w.heap.size + 1) v3 (ints (trT xs ((0 : Nat) + 1))) := by
                rw [HPUT.out]
                simpa using ho3.mono hzr
              have bw3 := bwr.trans (hb3.mono bwr.size)
              have B3 := hBB.below hb3
              have HO4 := Lib.hid ho4
              clear ho3 hg3 ho4 HO2 hb2 hb3 hz2' HDr2 HS2
              go_wp2_with fail
              go_roundw
              case rel => exact ⟨(0 : Nat) + 1, by omega, by go_num, HO4.out, bw3, B3⟩
              case measure => simp [intOf]; omega
          · simp only [Value.slice.injEq] at e0
            obtain ⟨rfl, -, rfl⟩ := e0
            clear hbg hgg hn0 hm0 hs0 ht0 hok
            by_cases hcl : cv = k
            · obtain rfl : cv = k := hcl
              go_wp2_with fail
              go_region
              all_goals
                obtain ⟨w4, hw4⟩ : ∃ w4, w4 = wr.drew := ⟨_, rfl⟩
                have ht4 : Below wr.heap.size wr w4 := by rw [hw4]; exact (Below.refl _ _).drew
                rw [← hw4]
                have HTr := Lib.hid (HTr.out.below ht4)
                have HDr : Hid (Rd w4 (some ⟨g, 0, none⟩) D) := HDR.out _ _
                have bwr := bwr.trans (ht4.mono bwr.size)
                have hBB := hBB.below ht4
                have hzr : w.heap.size + 1 ≤ w4.heap.size := Nat.le_trans hzw ht4.size
                clear hw4 ht4
                have hown1 := l1Own_any (some ⟨g, 0, none⟩) T cv w4 HTr.out (by rw [HTl.out]; omega)
                rw [HTl.out] at hown1
                have HO1 := Lib.hid hown1
                clear hown1
                go_wp2_with fail
                refine HO1.out.mono ?_
                rintro e w1 ⟨a1, cap1, rfl, ho1, hb1⟩
                have zw1 := hb1.size
                go_wp2_with (at_builtin; refine wpList_append_own _ rfl _ _ 22 rfl w4.heap.size 3 i0 (.int .i64 0) 1 8 Tryd.underlying22 hi hz0 hz1 hz2 rfl (by decide) (.slice a1 cv cap1) cv (T.map (Value.int .i64)) rfl (by have h := ho1.alloc (.cells #[.int .i64 (cv : Int)] 3); unfold OwnI at h; rw [HTl.out] at h; exact h) ⟨w1.heap.size, 0, none⟩ 1 1 [.int .i64 (cv : Int)] rfl rfl (cell_one_new _ _ _) (by intro u hu; simp at hu; subst hu; rfl) (by unfold maxLen; omega) (by omega) (by simp; omega) ?_)
                intro v2 w2 ho2 hg2 _
                have hb2 : Below w4.heap.size w4 w2 := hb1.trans (below_of_grown (grown_alloc_set hg2) (fun b e => (ho1.lt b e).1) zw1)
                have ho2' : OwnI w2 w4.heap.size v2 (T ++ [(cv : Int)]) := by
                  unfold OwnI
                  rw [List.length_append, HTl.out, List.map_append]
                  exact ho2
                obtain ⟨a2, cap2, rfl⟩ := ho2'.form
                have HO2 := Lib.hid ho2'
                have HDr2 := Lib.hid (HDr.out.below hb2)
                have HS2 : Hid ((T ++ [(cv : Int)]).length + D.length ≤ 1000) := by rw [Hid, List.length_append, HTl.out, List.length_singleton, HDl.out]; omega
                have hl2 : (T ++ [(cv : Int)]).length = cv + 1 := by rw [List.length_append, HTl.out, List.length_singleton]
                rw [hl2]
                have hz2' := hb2.size
                clear ho2 hg2 ho1 hb1 ho2' hl2
                go_wp2_with (at_builtin; refine wpList_append_rd rfl _ _ rfl w4.heap.size (.slice a2 (cv + 1) cap2) (T ++ [(cv : Int)]) rfl (by have h := HO2.out; rw [List.length_append, HTl.out, List.length_singleton] at h; exact h) (some ⟨g, 0, none⟩) D 0 (by rw [HDl.out]; rfl) HDr2.out HS2.out hz2' ?_)
                intro v3 w3 ho3 hg3
                have hb3 : Below w4.heap.size w4 w3 := hb2.trans (below_of_grown hg3 (fun b e => by have h := HO2.out; rw [List.length_append, HTl.out, List.length_singleton] at h; exact (h.lt b e).1) hb2.size)
                have ho4 : OwnI w3 (w.heap.size + 1) v3 (ints (trT xs (cv + 1))) := by
                  rw [HPUT.out]
                  simpa using ho3.mono hzr
                have bw3 := bwr.trans (hb3.mono bwr.size)
                have B3 := hBB.below hb3
                have HO4 := Lib.hid ho4
                clear ho3 hg3 ho4 HO2 hb2 hb3 hz2' HDr2 HS2
                go_wp2_with fail
                go_roundw
                case rel => exact ⟨cv + 1, by omega, by go_num, HO4.out, bw3, B3⟩
                case measure => simp [intOf]; omega
            · have hcl2 : ¬ k = cv := fun e => hcl e.symm
              have hcl3 : k < cv := by omega
              go_wp2_with fail
              go_region
              all_goals
                obtain ⟨w4, hw4⟩ : ∃ w4, w4 = wr.drew := ⟨_, rfl⟩
                have ht4 : Below wr.heap.size wr w4 := by rw [hw4]; exact (Below.refl _ _).drew
                rw [← hw4]
                have HTr := Lib.hid (HTr.out.below ht4)
                have HDr : Hid (Rd w4 (some ⟨g, k, none⟩) D) := HDR.out _ _
                have bwr := bwr.trans (ht4.mono bwr.size)
                have hBB := hBB.below ht4
                have hzr : w.heap.size + 1 ≤ w4.heap.size := Nat.le_trans hzw ht4.size
                clear hw4 ht4
                have hown1 := l1Own_any (some ⟨g, 0, none⟩) T cv w4 HTr.out (by rw [HTl.out]; omega)
                rw [HTl.out] at hown1
                have HO1 := Lib.hid hown1
                clear hown1
                go_wp2_with fail
                refine HO1.out.mono ?_
                rintro e w1 ⟨a1, cap1, rfl, ho1, hb1⟩
                have zw1 := hb1.size
                go_wp2_with (at_builtin; refine wpList_append_own _ rfl _ _ 22 rfl w4.heap.size 3 i0 (.int .i64 0) 1 8 Tryd.underlying22 hi hz0 hz1 hz2 rfl (by decide) (.slice a1 k cap1) k (T.map (Value.int .i64)) rfl (by have h := ho1.alloc (.cells #[.int .i64 (k : Int)] 3); unfold OwnI at h; rw [HTl.out] at h; exact h) ⟨w1.heap.size, 0, none⟩ 1 1 [.int .i64 (k : Int)] rfl rfl (cell_one_new _ _ _) (by intro u hu; simp at hu; subst hu; rfl) (by unfold maxLen; omega) (by omega) (by simp; omega) ?_)
                intro v2 w2 ho2 hg2 _
                have hb2 : Below w4.heap.size w4 w2 := hb1.trans (below_of_grown (grown_alloc_set hg2) (fun b e => (ho1.lt b e).1) zw1)
                have ho2' : OwnI w2 w4.heap.size v2 (T ++ [(k : Int)]) := by
                  unfold OwnI
                  rw [List.length_append, HTl.out, List.map_append]
                  exact ho2
                obtain ⟨a2, cap2, rfl⟩ := ho2'.form
                have HO2 := Lib.hid ho2'
                have HDr2 := Lib.hid (HDr.out.below hb2)
                have HS2 : Hid ((T ++ [(k : Int)]).length + D.length ≤ 1000) := by rw [Hid, List.length_append, HTl.out, List.length_singleton, HDl.out]; omega
                have hl2 : (T ++ [(k : Int)]).length = k + 1 := by rw [List.length_append, HTl.out, List.length_singleton]
                rw [hl2]
                have hz2' := hb2.size
                clear ho2 hg2 ho1 hb1 ho2' hl2
                go_wp2_with (at_builtin; refine wpList_append_rd rfl _ _ rfl w4.heap.size (.slice a2 (k + 1) cap2) (T ++ [(k : Int)]) rfl (by have h := HO2.out; rw [List.length_append, HTl.out, List.length_singleton] at h; exact h) (some ⟨g, k, none⟩) D (cv - k) (by rw [HDl.out]; rfl) HDr2.out HS2.out hz2' ?_)
                intro v3 w3 ho3 hg3
                have hb3 : Below w4.heap.size w4 w3 := hb2.trans (below_of_grown hg3 (fun b e => by have h := HO2.out; rw [List.length_append, HTl.out, List.length_singleton] at h; exact (h.lt b e).1) hb2.size)
                have ho4 : OwnI w3 (w.heap.size + 1) v3 (ints (trT xs (k + 1))) := by
                  rw [HPUT.out]
                  simpa using ho3.mono hzr
                have bw3 := bwr.trans (hb3.mono bwr.size)
                have B3 := hBB.below hb3
                have HO4 := Lib.hid ho4
                clear ho3 hg3 ho4 HO2 hb2 hb3 hz2' HDr2 HS2
                go_wp2_with fail
                go_roundw
                case rel => exact ⟨k + 1, by omega, by go_num, HO4.out, bw3, B3⟩
                case measure => simp [intOf]; omega
    · obtain rfl : i = xs.length := by omega
      have hOl : (ints (trT xs xs.length)).length = xs.length := by rw [ints_len, trT_len]
      obtain ⟨av, cv, rfl⟩ := hown.form
      rw [hOl] at hown ⊢
      clear hOl
      go_wp2_with fail
      refine bodyPost_ret (v := .slice av xs.length cv) (by simp [results, Tryd.results48, go_sem]) rfl ?_
      exact ⟨av, cv, rfl, hown.mono (by omega), hb⟩

def staL (xs : List Int) (q : Nat) : List Int := ((trT xs xs.length).take q).map (cntB xs)
theorem staL_len {xs : List Int} {q : Nat} (h : q ≤ xs.length) : (staL xs q).length = q := by
  rw [staL, List.length_map, List.length_take, trT_len]; omega
theorem staL_0 (xs : List Int) : staL xs 0 = [] := by simp [staL]
theorem staL_end (xs : List Int) : staL xs xs.length = srt (cnts xs xs.length) := by
  rw [staL, List.take_of_length_le (by rw [trT_len]; exact Nat.le_refl _), stair_eq]
set_option maxRecDepth 100000 in
theorem seStair_any (n : Int) (a : Option Addr) (xs : List Int) (cap : Nat) (w : World) (hx : Rd w a xs) (hp : RelP n xs) :
    Calls Tryd.prog 56 #[.agg #[.int .i64 n, .slice a xs.length cap]] w fun e w' => ∃ a' cap', e = .returned (.slice a' xs.length cap') ∧ OwnI w' w.heap.size (.slice a' xs.length cap') (srt (cnts xs xs.length)) ∧ Below w.heap.size w w' := by
  have hx1 := hx.alloc (.cells #[.int .i64 n, .slice a xs.length cap] 28)
  have h10 : xs.length ≤ 10 := by have := hp.len; have := hp.n1; omega
  obtain rfl : n = (xs.length : Int) := hp.len.symm
  obtain ⟨i0, hi, hz0, hz1, hz2⟩ := info_parts infoInt
  have HEND := Lib.hid (staL_end xs)
  have H00 := Lib.hid (staL_0 xs)
  go_enter Tryd.func56, Tryd.ntmps56
  go_wp2_with fail
  refine (seTrace_any _ _ _ _ _ hx1 hp).mono ?_
  rintro e w1 ⟨a1, c1, rfl, ho1, hb1⟩
  have A1 : Box2 w1 w.heap.size (.int .i64 (xs.length : Int)) (.slice a xs.length cap) := (Box2.new w _ _ _).below hb1
  have bw1 : Below w.heap.size w w1 := Below.trans (by repeat (first | exact Below.refl _ _ | assumption | refine Below.alloc ?_ (by first | exact Nat.le_refl _ | (simp only [World.size_alloc, World.size_setCell, World.size_drew]; omega) | omega) _ | refine Below.setCell ?_ (by first | exact Nat.le_refl _ | (simp only [World.size_alloc, World.size_setCell, World.size_drew]; omega) | omega) _ | refine Below.drew ?_)) (hb1.mono (by first | (simp only [World.size_alloc, World.size_setCell, World.size_drew]; omega) | omega))
  have hr1 := ho1.rd
  have htl : (ints (trT xs xs.length)).length = xs.length := by rw [ints_len, trT_len]
  have HTL := Lib.hid htl
  clear hb1 ho1 htl
  go_wp2_with fail
  go_loopw [3, 9] (fun v i' wr => ∃ q : Nat, q ≤ xs.length ∧ i' = .int .i64 q ∧ OwnI wr w1.heap.size v (staL xs q) ∧ Below w1.heap.size w1 wr) (fun _ i' _ => xs.length - (intOf i').toNat)
  case atStart => exact ⟨0, Nat.zero_le _, rfl, by rw [H00.out]; exact OwnI.nil _ _, Below.refl _ _⟩
  case round =>
    obtain ⟨q, hq, rfl, hown, hb⟩ := hrel
    obtain ⟨av, cv, rfl⟩ := hown.form
    have hsl := staL_len hq
    rw [hsl] at hown ⊢
    by_cases hlt : q < xs.length
    · have hql : q < (trT xs xs.length).length := by rw [trT_len]; exact hlt
      obtain ⟨x, hx'⟩ : ∃ x, x = (trT xs xs.length)[q] := ⟨_, rfl⟩
      have hxl : x < xs.length := by rw [hx']; exact trT_lt (List.getElem_mem hql)
      have hnx : nth (ints (trT xs xs.length)) q = (x : Int) := by rw [ints_nth hql, hx']
      have hnext : staL xs (q+1) = staL xs q ++ [cntB xs x] := by
        simp only [staL]
        rw [List.take_succ_eq_append_getElem hql, List.map_append, hx']
        rfl
      have HNX := Lib.hid hnext
      have hA := A1.below hb
      have ⟨zA, cA, dA⟩ := hA
      have bwr := bw1.trans (hb.mono bw1.size)
      obtain ⟨b, off, rfl, hbl, hc⟩ := (hr1.below hb).cell q (by rw [HTL.out]; exact hlt)
      rw [hnx] at hc
      have x0 : (0 : Int) ≤ (x : Int) := by omega
      have bx := belowTo_small xs (x : Int) (k := xs.length) h10
      have bx0 : (0 : Int) ≤ ((belowTo xs (x : Int) xs.length : Nat) : Int) := by omega
      have bx1 : ((belowTo xs (x : Int) xs.length : Nat) : Int) < 1024 := by omega
      have HC : Hid (((elems ((belowTo xs (x : Int) xs.length : Nat) : Int).toNat).length : Int) = cntB xs x) := rfl
      have q1 : (q : Int) < (xs.length : Int) := by omega
      have HSL := Lib.hid hsl
      clear hx' hnx hnext bx hql hsl
      go_wp2_with fail
      refine (orBelow_any _ _ _ _ _ _ (hx.below bwr) hp x0).mono ?_
      rintro e w3 ⟨rfl, hb3⟩
      have b3 := hb.trans (hb3.mono hb.size)
      have o3 := hown.below hb3 (Nat.le_refl _)
      clear hb3 hown cA dA zA hA
      go_wp2_with fail
      refine (seMany_any _ _ bx0 bx1).mono ?_
      rw [HC.out]
      rintro e w4 ⟨rfl, hb4⟩
      have b4 := b3.trans (hb4.mono b3.size)
      have o4 := o3.below hb4 (Nat.le_refl _)
      have hz4 := b4.size
      clear hb4 o3 b3
      go_wp2_with (at_builtin; refine wpList_append_own _ rfl _ _ 22 rfl w1.heap.size 3 i0 (.int .i64 0) 1 8 Tryd.underlying22 hi hz0 hz1 hz2 rfl (by decide) (.slice av q cv) q ((staL xs q).map (Value.int .i64)) rfl (by have h := o4.alloc (.cells #[.int .i64 (cntB xs x)] 3); unfold OwnI at h; rw [HSL.out] at h; exact h) ⟨w4.heap.size, 0, none⟩ 1 1 [.int .i64 (cntB xs x)] rfl rfl (cell_one_new _ _ _) (by intro u hu; simp at hu; subst hu; rfl) (by unfold maxLen; omega) (by omega) (by simp; omega) ?_)
      intro v' w6 hown6 hgrow _
      have hg2 := grown_alloc_set hgrow
      have o6 : OwnI w6 w1.heap.size v' (staL xs (q + 1)) := by
        rw [HNX.out]
        unfold OwnI
        rw [List.length_append, HSL.out, List.map_append]
        exact hown6
      have b6 := b4.trans (below_of_grown hg2 (fun c e => (o4.lt c e).1) hz4)
      have HO6 := Lib.hid o6
      clear hown6 hgrow hg2 o4 o6
      go_wp2_with fail
      go_roundw
      case rel => exact ⟨q + 1, by omega, by go_num, HO6.out, b6⟩
      case measure => simp [intOf]; omega
    · obtain rfl : q = xs.length := by omega
      rw [HEND.out] at hown
      clear hsl
      go_wp2_with fail
      refine bodyPost_ret (v := .slice av xs.length cv) (by simp [results, Tryd.results56, go_sem]) rfl ?_
      exact ⟨av, cv, rfl, hown.mono bw1.size, bw1.trans (hb.mono bw1.size)⟩

theorem orFree_any (n : Int) (a : Option Addr) (xs : List Int) (cap : Nat) (k : Nat) (w : World) (hx : Rd w a xs) (hr : RelP n xs) (hk : k < xs.length) :
    Calls Tryd.prog 41 #[.agg #[.int .i64 n, .slice a xs.length cap], .int .i64 k] w fun e w' => e = .returned (.int .i64 (freeN xs k)) ∧ Below w.heap.size w w' := by
  have hx1 := hx.alloc (.cells #[.int .i64 n, .slice a xs.length cap] 28)
  have hn := hr.n1
  have h0 := hr.n0
  have hk0 : (0 : Int) ≤ (k : Int) := by omega
  have hk1 : (k : Int) < (xs.length : Int) := by omega
  have HF := Lib.hid (free_val hr hk)
  obtain ⟨b, off, rfl, hbl, hc⟩ := hx1.cell k hk
  obtain ⟨b', off', e', hbl', hc'⟩ := hx.cell k hk
  simp only [Option.some.injEq, Addr.mk.injEq, and_true] at e'
  obtain ⟨rfl, rfl⟩ := e'
  go_enter Tryd.func41, Tryd.ntmps41
  go_wp2_with fail
  go_region_held3 (fun w' => w'.cell? ⟨w.heap.size, 0, none⟩ = some (.int .i64 n) ∧ w'.cell? ⟨w.heap.size, 1, none⟩ = some (.slice (some ⟨b, off, none⟩) xs.length cap) ∧ w'.cell? ⟨b, off + k, none⟩ = some (.int .i64 (nth xs k)))
    (first | exact ⟨P1.2.1, P1.2.2, q1⟩ | go_keep)
    (first | (go_at_call 67; refine (orBelow_any _ _ _ _ _ _ (hx1.below (Joins.below_draws _ _ _)) hr (by omega)).mono ?_; rintro e w1 ⟨rfl, hb1⟩; have ht1 : Below (w.alloc (.cells #[.int .i64 n, .slice (some ⟨b, off, none⟩) xs.length cap] 28)).heap.size (w.alloc (.cells #[.int .i64 n, .slice (some ⟨b, off, none⟩) xs.length cap] 28)) w1 := (Joins.below_draws _ _ _).trans hb1; have P1 := (Box2.new w _ _ _).below ht1; have q1 := (ht1.cell (p := ⟨b, off + k, none⟩) hbl).trans hc))
  go_wp2_with fail
  go_ret
  exact ⟨ret_int (by rw [show min k 64 = k from by have := hr.len; omega, ← HF.out]; simp only [i64_wrap]), Below.trans (by repeat (first | exact Below.refl _ _ | assumption | refine Below.alloc ?_ (by first | exact Nat.le_refl _ | (simp only [World.size_alloc, World.size_setCell, World.size_drew]; omega) | omega) _ | refine Below.setCell ?_ (by first | exact Nat.le_refl _ | (simp only [World.size_alloc, World.size_setCell, World.size_drew]; omega) | omega) _ | refine Below.drew ?_)) (ht1.mono (by first | (simp only [World.size_alloc, World.size_setCell, World.size_drew]; omega) | omega))⟩

theorem frN_lt {n : Int} {xs : List Int} (hp : RelP n xs) (i : Nat) : freeN xs i < 1024 := by
  have h10 : xs.length ≤ 10 := by have := hp.len; have := hp.n1; omega
  unfold freeN
  have h1 : 2 ^ xs.length ≤ 2 ^ 10 := Nat.pow_le_pow_right (by omega) h10
  have h2 := Nat.two_pow_pos xs.length
  exact sub_lt (n := 10) (by omega)
theorem seIndifferent_any (n : Int) (a : Option Addr) (xs : List Int) (cap : Nat) (i j : Nat) (w : World) (hx : Rd w a xs) (hp : RelP n xs) (hi : i < xs.length) :
    Calls Tryd.prog 100 #[.agg #[.int .i64 n, .slice a xs.length cap], .int .i64 i, .int .i64 j] w fun e w' => e = .returned (.bool (frB xs i j)) ∧ Below w.heap.size w w' := by
  have hx1 := hx.alloc (.cells #[.int .i64 n, .slice a xs.length cap] 28)
  have hf := frN_lt hp i
  have f0 : (0 : Int) ≤ ((freeN xs i : Nat) : Int) := by omega
  have f1 : ((freeN xs i : Nat) : Int) ≤ 9223372036854775807 := by omega
  have j0 : (0 : Int) ≤ (j : Int) := by omega
  have HB : Hid (hasB ((freeN xs i : Nat) : Int) (j : Int) = frB xs i j) := rfl
  clear hf
  go_enter Tryd.func100, Tryd.ntmps100
  go_wp2_with fail
  refine (orFree_any _ _ _ _ _ _ hx1 hp hi).mono ?_
  rintro e w1 ⟨rfl, hb1⟩
  have bw1 : Below w.heap.size w w1 := Below.trans (by repeat (first | exact Below.refl _ _ | assumption | refine Below.alloc ?_ (by first | exact Nat.le_refl _ | (simp only [World.size_alloc, World.size_setCell, World.size_drew]; omega) | omega) _ | refine Below.setCell ?_ (by first | exact Nat.le_refl _ | (simp only [World.size_alloc, World.size_setCell, World.size_drew]; omega) | omega) _ | refine Below.drew ?_)) (hb1.mono (by first | (simp only [World.size_alloc, World.size_setCell, World.size_drew]; omega) | omega))
  clear hb1
  go_wp2_with fail
  refine (orHas_any _ _ _ f0 f1 j0).mono ?_
  rintro e w' ⟨rfl, rfl⟩
  go_wp2_with fail
  go_ret
  exact ⟨ret_bool HB.out, bw1⟩

theorem l1In_any (n lo hi : Int) (w : World) :
    Calls Tryd.prog 86 #[.int .i64 n, .int .i64 lo, .int .i64 hi] w fun e w' => e = .returned (.bool (inB n lo hi)) ∧ w = w' := by
  go_enter Tryd.func86, Tryd.ntmps86
  go_wp2
  all_goals (go_ret; exact ⟨ret_bool (by simp [inB]; try omega), rfl⟩)
theorem l1In_is {n lo hi : Int} {b : Bool} (h : inB n lo hi = b) (w : World) (m : Nat) :
    Calls Tryd.prog 86 #[.int .i64 n, .int .i64 lo, .int .i64 hi] (w.drewN m) fun e w' => e = .returned (.bool b) ∧ ∃ k, w' = w.drewN k :=
  Calls.quiet_of_same ((l1In_any n lo hi (w.drewN m)).mono (fun e w' hh => ⟨by rw [← h]; exact hh.1, hh.2.symm⟩))

theorem l1All_any (a : Option Addr) (xs : List Int) (cap : Nat) (lo hi : Int) (w : World) (hx : Rd w a xs) :
    Calls Tryd.prog 96 #[.slice a xs.length cap, .int .i64 lo, .int .i64 hi] w fun e w' => e = .returned (.bool (allB xs lo hi)) ∧ w = w' := by
  have hlen := hx.len
  go_enter Tryd.func96, Tryd.ntmps96
  go_wp2_with fail
  go_loop [11] (fun i => ∃ k : Nat, k ≤ xs.length ∧ i = .int .i64 k ∧ allB (xs.take k) lo hi = true) (fun i => xs.length - (intOf i).toNat)
  case atStart => exact ⟨0, Nat.zero_le _, rfl, rfl⟩
  case round =>
    obtain ⟨k, hk, rfl, hall⟩ := hrel
    by_cases hlt : k < xs.length
    · obtain ⟨b, off, rfl, hbl, hc⟩ := hx.cell k hlt
      cases hin : inB (nth xs k) lo hi
      · have hf := Lib.hid (allB_false hlt hin)
        go_wp2_with (go_at_call 86; refine (l1In_any _ _ _ _).mono ?_; rintro e w' ⟨rfl, rfl⟩)
        go_ret
        exact ⟨ret_bool hf.out.symm, rfl⟩
      · go_wp2_with (go_at_call 86; refine (l1In_any _ _ _ _).mono ?_; rintro e w' ⟨rfl, rfl⟩)
        go_round
        case rel => exact ⟨k + 1, by omega, by go_num, by rw [allB_take _ _ _ _ hlt, hall, hin]; rfl⟩
        case measure => simp [intOf]; omega
    · go_wp2_with fail
      go_ret
      exact ⟨ret_bool (by rw [← hall, List.take_of_length_le (by omega)]), rfl⟩
theorem l1All_is {a : Option Addr} {xs : List Int} {cap : Nat} {lo hi : Int} {b : Bool} {w : World} (hx : Rd w a xs) (h : allB xs lo hi = b) (m : Nat) :
    Calls Tryd.prog 96 #[.slice a xs.length cap, .int .i64 lo, .int .i64 hi] (w.drewN m) fun e w' => e = .returned (.bool b) ∧ ∃ k, w' = w.drewN k :=
  Calls.quiet_of_same ((l1All_any a xs cap lo hi (w.drewN m) (hx.below (Joins.below_draws _ _ _))).mono (fun e w' hh => ⟨by rw [← h]; exact hh.1, hh.2.symm⟩))

theorem orRelation_any (n : Int) (a : Option Addr) (xs : List Int) (cap : Nat) (w : World) (hx : Rd w a xs) :
    Calls Tryd.prog 70 #[.agg #[.int .i64 n, .slice a xs.length cap]] w fun e w' => e = .returned (.bool (relB n xs)) ∧ Below w.heap.size w w' := by
  have hx1 := hx.alloc (.cells #[.int .i64 n, .slice a xs.length cap] 28)
  cases h1 : inB n 0 10
  · have HR : Hid (relB n xs = false) := by simp [Hid, relB, h1]
    go_enter Tryd.func70, Tryd.ntmps70
    go_wp2_with fail
    go_quiet ((go_at_call 86; exact l1In_is h1 _ _))
    go_wp2_with fail
    go_ret
    exact ⟨ret_bool HR.out.symm, (Below.refl _ _).alloc (Nat.le_refl _) _ |>.trans (Joins.below_draws _ _ _)⟩
  · have hn := inB_iff.1 h1
    cases h2 : ((xs.length : Int) == n)
    · have HR : Hid (relB n xs = false) := by
        have : ¬ (xs.length : Int) = n := by simpa using h2
        simp [Hid, relB, h1, this]
      go_enter Tryd.func70, Tryd.ntmps70
      go_wp2_with fail
      go_quiet ((go_at_call 86; exact l1In_is h1 _ _))
      go_wp2_with fail
      go_ret
      exact ⟨ret_bool HR.out.symm, (Below.refl _ _).alloc (Nat.le_refl _) _ |>.trans (Joins.below_draws _ _ _)⟩
    · cases h3 : allB xs 0 (wrap64 (wrap64 (2 ^ n.toNat) - 1))
      all_goals
        have HR : Hid (relB n xs = allB xs 0 (wrap64 (wrap64 (2 ^ n.toNat) - 1))) := by
          have : (xs.length : Int) = n := by simpa using h2
          simp only [Hid, relB, h1, this, full_eq hn.1 hn.2]
          simp
        have H3 := Lib.hid h3
        clear h3
        go_enter Tryd.func70, Tryd.ntmps70
        go_wp2_with fail
        go_quiet ((first | (go_at_call 86; exact l1In_is h1 _ _) | (go_at_call 96; exact l1All_is hx1 H3.out _)))
        go_wp2_with fail
        go_ret
        exact ⟨ret_bool (by rw [HR.out, H3.out]), (Below.refl _ _).alloc (Nat.le_refl _) _ |>.trans (Joins.below_draws _ _ _)⟩

theorem elem_at {n : Int} {xs : List Int} (hp : RelP n xs) {k : Nat} (hk : k < xs.length) {m : Nat} (hm : m < (elems (nth xs k).toNat).length) :
    ∃ i : Nat, i < xs.length ∧ hasB (nth xs k) i = true ∧ nth (elems (nth xs k).toNat) m = (i : Int) := by
  have h1 := hp.small k hk
  have h0 := hp.pos k hk
  obtain ⟨i, hb, e⟩ := (mem_elems (by omega)).1 (nth_mem hm)
  exact ⟨i, has_lt hp hk hb, hb, e⟩
theorem at_elem {n : Int} {xs : List Int} (hp : RelP n xs) {k : Nat} (hk : k < xs.length) {j : Nat} (h : hasB (nth xs k) j = true) :
    ∃ m, m < (elems (nth xs k).toNat).length ∧ nth (elems (nth xs k).toNat) m = (j : Int) := by
  have h1 := hp.small k hk
  have h0 := hp.pos k hk
  have : (j : Int) ∈ elems (nth xs k).toNat := (mem_elems (by omega)).2 ⟨j, h, rfl⟩
  obtain ⟨m, hm, e⟩ := mem_nth this
  exact ⟨m, hm, e⟩
theorem orGood_any (n : Int) (a : Option Addr) (xs : List Int) (cap : Nat) (w : World) (hx : Rd w a xs) :
    Calls Tryd.prog 39 #[.agg #[.int .i64 n, .slice a xs.length cap]] w fun e w' => e = .returned (.bool (ordB n xs)) ∧ Below w.heap.size w w' := by
  have hx1 := hx.alloc (.cells #[.int .i64 n, .slice a xs.length cap] 28)
  have hlen := hx.len
  cases hr : relB n xs
  · have HR : Hid (ordB n xs = false) := by simp [Hid, ordB, hr]
    go_enter Tryd.func39, Tryd.ntmps39
    go_wp2_with fail
    refine (orRelation_any _ _ _ _ _ hx1).mono ?_
    rintro e w1 ⟨rfl, hb1⟩
    go_wp2_with fail
    go_ret
    exact ⟨ret_bool HR.out.symm, Below.trans (by repeat (first | exact Below.refl _ _ | assumption | refine Below.alloc ?_ (by first | exact Nat.le_refl _ | (simp only [World.size_alloc, World.size_setCell, World.size_drew]; omega) | omega) _ | refine Below.setCell ?_ (by first | exact Nat.le_refl _ | (simp only [World.size_alloc, World.size_setCell, World.size_drew]; omega) | omega) _ | refine Below.drew ?_)) (hb1.mono (by first | (simp only [World.size_alloc, World.size_setCell, World.size_drew]; omega) | omega))⟩
  · have hp := relB_p hr
    go_enter Tryd.func39, Tryd.ntmps39
    go_wp2_with fail
    refine (orRelation_any _ _ _ _ _ hx1).mono ?_
    rintro e w1 ⟨rfl, hb1⟩
    have B1 := (Box2.new w _ _ _).below hb1
    have ⟨z1, c1, d1⟩ := B1
    have bw1 : Below w.heap.size w w1 := Below.trans (by repeat (first | exact Below.refl _ _ | assumption | refine Below.alloc ?_ (by first | exact Nat.le_refl _ | (simp only [World.size_alloc, World.size_setCell, World.size_drew]; omega) | omega) _ | refine Below.setCell ?_ (by first | exact Nat.le_refl _ | (simp only [World.size_alloc, World.size_setCell, World.size_drew]; omega) | omega) _ | refine Below.drew ?_)) (hb1.mono (by first | (simp only [World.size_alloc, World.size_setCell, World.size_drew]; omega) | omega))
    have HR := Lib.hid hr
    clear hb1
    go_wp2_with fail
    clear hr
    go_loopw [13] (fun i wr => ∃ k : Nat, k ≤ xs.length ∧ i = .int .i64 k ∧ (∀ j, j < k → okAtB xs j = true) ∧ Below w1.heap.size w1 wr) (fun i _ => xs.length - (intOf i).toNat)
    case atStart => exact ⟨0, Nat.zero_le _, rfl, fun j hj => by omega, Below.refl _ _⟩
    case round =>
      obtain ⟨k, hk, rfl, hall, hb⟩ := hrel
      have Br := B1.below hb
      have ⟨zr, cr, dr⟩ := Br
      have bwr := bw1.trans (hb.mono bw1.size)
      have HA := Lib.hid hall
      clear hall c1 d1
      by_cases hlt : k < xs.length
      · obtain ⟨b, off, rfl, hbl, hc⟩ := (hx.below bwr).cell k hlt
        have hpk := hp.pos k hlt
        have hsk := hp.small k hlt
        have hsk' : nth xs k ≤ 9223372036854775807 := by omega
        cases hin : hasB (nth xs k) k
        · go_wp2_with fail
          refine (orHas_any _ _ _ hpk hsk' (by omega)).mono ?_
          rintro e w' ⟨rfl, rfl⟩
          go_wp2_with fail
          refine (orList_any _ _ hpk hsk).mono ?_
          rintro e w2 ⟨a2, cap2, rfl, ho2, hb2⟩
          have ⟨z2, c2, d2⟩ := Br.below hb2
          have bw2 := bwr.trans (hb2.mono bwr.size)
          have hx2 := hx.below bw2
          have hr2 := ho2.rd
          have bk2 := hb.trans (hb2.mono hb.size)
          have hel := elems_len (nth xs k).toNat
          have HI := Lib.hid hin
          clear hin cr dr hc
          obtain ⟨es, hes⟩ : ∃ es, es = elems (nth xs k).toNat := ⟨_, rfl⟩
          rw [← hes] at ho2 hr2 hel
          have HES := Lib.hid hes
          rw [← hes]
          clear hes ho2 hb2
          go_wp2_with fail
          go_loop [24] (fun i => ∃ j : Nat, j ≤ es.length ∧ i = .int .i64 j ∧ (∀ m, m < j → sub (nth xs (nth es m).toNat).toNat (nth xs k).toNat = 0)) (fun i => es.length - (intOf i).toNat)
          case atStart => exact ⟨0, Nat.zero_le _, rfl, fun m hm => by omega⟩
          case round =>
            obtain ⟨j, hj, rfl, hin2⟩ := hrel
            have HIN := Lib.hid hin2
            clear hin2
            by_cases hjl : j < es.length
            · obtain ⟨b2, off2, rfl, hbl2, hc2⟩ := hr2.cell j hjl
              obtain ⟨i, hil, hib, hie⟩ : ∃ i : Nat, i < xs.length ∧ hasB (nth xs k) i = true ∧ nth es j = (i : Int) := by
                have := elem_at hp hlt (m := j) (by rw [← HES.out]; exact hjl)
                rw [← HES.out] at this
                exact this
              obtain ⟨b3, off3, e3, hbl3, hc3⟩ := hx2.cell i hil
              simp only [Option.some.injEq, Addr.mk.injEq, and_true] at e3
              obtain ⟨rfl, rfl⟩ := e3
              have hpi := hp.pos i hil
              have hsi := hp.small i hil
              have hsub := sub_i (a := nth xs i) (b := nth xs k) hpi (by omega) hpk (by omega)
              have HB := Lib.hid hib
              have HE := Lib.hid hie
              rw [hie] at hc2
              clear hib hie
              by_cases hz : sub (nth xs i).toNat (nth xs k).toNat = 0
              · have hne : (bits BinOp.andNot IntKind.i64 (nth xs i) (nth xs k) != 0) = false := by rw [hsub, hz]; rfl
                have HZ := Lib.hid hz
                clear hz hsub
                go_wp2_with fail
                go_round
                case rel =>
                  refine ⟨j + 1, by omega, by go_num, fun m hm => ?_⟩
                  by_cases e : m = j
                  · rw [e, HE.out, Int.toNat_natCast]; exact HZ.out
                  · exact HIN.out m (by omega)
                case measure => simp [intOf]; omega
              · have hne : (bits BinOp.andNot IntKind.i64 (nth xs i) (nth xs k) != 0) = true := by rw [hsub]; simp; omega
                have HN := Lib.hid (ordB_no (n := n) hlt (okAtB_sub hil HB.out hz))
                clear hz hsub
                go_wp2_with fail
                go_ret
                exact ⟨ret_bool HN.out.symm, bw2⟩
            · obtain rfl : j = es.length := by omega
              have hok : okAtB xs k = true := by
                rw [okAtB_iff]
                refine ⟨HI.out, fun j hj hbj => ?_⟩
                obtain ⟨m, hm, e⟩ := at_elem hp hlt hbj
                rw [← HES.out] at hm e
                have := HIN.out m hm
                rwa [e, Int.toNat_natCast] at this
              have HK := Lib.hid hok
              clear hok
              go_wp2_with fail
              go_roundw
              case rel =>
                refine ⟨k + 1, by omega, by go_num, fun j hj => ?_, bk2⟩
                by_cases e : j = k
                · rw [e]; exact HK.out
                · exact HA.out j (by omega)
              case measure => simp [intOf]; omega
        · have HN := Lib.hid (ordB_no (n := n) hlt (okAtB_has hin))
          go_wp2_with fail
          refine (orHas_any _ _ _ hpk hsk' (by omega)).mono ?_
          rintro e w' ⟨rfl, rfl⟩
          go_wp2_with fail
          go_ret
          exact ⟨ret_bool HN.out.symm, bwr⟩
      · obtain rfl : k = xs.length := by omega
        go_wp2_with fail
        go_ret
        exact ⟨ret_bool (ordB_iff.2 ⟨HR.out, HA.out⟩).symm, bwr⟩

/-- nothing refuses ahead of the places k, p, m, q -/
def NoT (xs : List Int) (k p l m q : Nat) : Prop :=
  (∀ a b c d, a < k → b < xs.length → c < xs.length → d < xs.length → hasB (nth xs a) b = true → hasB (nth xs c) d = true → twD xs a b c d = false) ∧
  (∀ i c d, i < p → c < xs.length → d < xs.length → hasB (nth xs c) d = true → twD xs k (nth (elems (nth xs k).toNat) i).toNat c d = false) ∧
  (∀ c d, c < m → d < xs.length → hasB (nth xs c) d = true → twD xs k l c d = false) ∧
  ∀ i, i < q → twD xs k l m (nth (elems (nth xs m).toNat) i).toNat = false
theorem NoT.d {xs : List Int} {k p l m q : Nat} (h : NoT xs k p l m q) (h1 : twD xs k l m (nth (elems (nth xs m).toNat) q).toNat = false) : NoT xs k p l m (q+1) :=
  ⟨h.1, h.2.1, h.2.2.1, fun i hi => by
    by_cases e : i = q
    · subst e; exact h1
    · exact h.2.2.2 i (by omega)⟩
theorem NoT.c {n : Int} {xs : List Int} (hp : RelP n xs) {k p l m : Nat} (hm : m < xs.length) (h : NoT xs k p l m (elems (nth xs m).toNat).length) : NoT xs k p l (m+1) 0 :=
  ⟨h.1, h.2.1, fun c d hc hd h1 => by
    by_cases e : c = m
    · subst e
      obtain ⟨i, hi, e⟩ := at_elem hp hm h1
      have := h.2.2.2 i hi
      rw [e, Int.toNat_natCast] at this
      exact this
    · exact h.2.2.1 c d (by omega) hd h1, fun i hi => by omega⟩
theorem NoT.b {xs : List Int} {k p l l' : Nat} (h : NoT xs k p l xs.length 0) (he : (nth (elems (nth xs k).toNat) p).toNat = l) : NoT xs k (p+1) l' 0 0 :=
  ⟨h.1, fun i c d hi hc hd h1 => by
    by_cases e : i = p
    · subst e; rw [he]; exact h.2.2.1 c d hc hd h1
    · exact h.2.1 i c d (by omega) hc hd h1, fun c d hc => by omega, fun i hi => by omega⟩
theorem NoT.a {n : Int} {xs : List Int} (hp : RelP n xs) {k l l' : Nat} (hk : k < xs.length) (h : NoT xs k (elems (nth xs k).toNat).length l 0 0) : NoT xs (k+1) 0 l' 0 0 :=
  ⟨fun a b c d ha hb hc hd h1 h2 => by
    by_cases e : a = k
    · subst e
      obtain ⟨i, hi, e⟩ := at_elem hp hk h1
      have := h.2.1 i c d hi hc hd h2
      rw [e, Int.toNat_natCast] at this
      exact this
    · exact h.1 a b c d (by omega) hb hc hd h1 h2, fun i c d hi => by omega, fun c d hc => by omega, fun i hi => by omega⟩
theorem NoT.at {xs : List Int} {k p l l' : Nat} (h : NoT xs k p l 0 0) : NoT xs k p l' 0 0 := ⟨h.1, h.2.1, fun c d hc => by omega, fun i hi => by omega⟩
theorem NoT.no {xs : List Int} {l : Nat} (h : NoT xs xs.length 0 l 0 0) : twAny xs = false := twAny_no.2 (fun a b c d ha hb hc hd h1 h2 => h.1 a b c d ha hb hc hd h1 h2)
set_option maxRecDepth 100000 in
theorem seTwo_any (n : Int) (a : Option Addr) (xs : List Int) (cap : Nat) (w : World) (hx : Rd w a xs) (hp : RelP n xs) :
    Calls Tryd.prog 77 #[.agg #[.int .i64 n, .slice a xs.length cap]] w fun e w' => e = .returned (.bool (twAny xs)) ∧ Below w.heap.size w w' := by
  have h10 : xs.length ≤ 10 := by have := hp.len; have := hp.n1; omega
  obtain rfl : n = (xs.length : Int) := hp.len.symm
  go_enter Tryd.func77, Tryd.ntmps77
  go_wp2_with fail
  go_loopw [3] (fun i' wr => ∃ k : Nat, k ≤ xs.length ∧ i' = .int .i64 k ∧ NoT xs k 0 0 0 0 ∧ Below w.heap.size w wr ∧ Box2 wr w.heap.size (.int .i64 (xs.length : Int)) (.slice a xs.length cap)) (fun i' _ => xs.length - (intOf i').toNat)
  case atStart => exact ⟨0, Nat.zero_le _, rfl, ⟨fun a b c d ha => by omega, fun i c d hi => by omega, fun c d hc => by omega, fun i hi => by omega⟩, (by repeat (first | exact Below.refl _ _ | assumption | refine Below.alloc ?_ (by first | exact Nat.le_refl _ | (simp only [World.size_alloc, World.size_setCell, World.size_drew]; omega) | omega) _ | refine Below.setCell ?_ (by first | exact Nat.le_refl _ | (simp only [World.size_alloc, World.size_setCell, World.size_drew]; omega) | omega) _ | refine Below.drew ?_)), Box2.new w _ _ _⟩
  case round =>
    obtain ⟨k, hk, rfl, hall, hb, hB⟩ := hrel
    have ⟨zr, cr, dr⟩ := hB
    have HA := Lib.hid hall
    clear hall
    by_cases hlt : k < xs.length
    · have pk := hp.pos k hlt
      have sk := hp.small k hlt
      have k0 : (0 : Int) ≤ (k : Int) := by omega
      have k1 : (k : Int) < (xs.length : Int) := by omega
      obtain ⟨b, off, rfl, hbl, hck⟩ := (hx.below hb).cell k hlt
      obtain ⟨es, hes⟩ : ∃ es, es = elems (nth xs k).toNat := ⟨_, rfl⟩
      have hesl : es.length ≤ 10 := by rw [hes]; exact elems_len _
      have HES := Lib.hid hes
      clear hes
      go_wp2_with fail
      refine (orList_any _ _ pk sk).mono ?_
      rw [← HES.out]
      rintro e w2 ⟨a2, c2, rfl, ho2, hb2⟩
      have bw2 := hb.trans (hb2.mono hb.size)
      have B2 := hB.below hb2
      have hr2 := ho2.rd
      clear ho2 hb2 hck cr dr hb hB
      go_wp2_with fail
      go_loopw [22] (fun i' wr => ∃ p : Nat, p ≤ es.length ∧ i' = .int .i64 p ∧ NoT xs k p 0 0 0 ∧ Below w2.heap.size w2 wr ∧ Box2 wr w.heap.size (.int .i64 (xs.length : Int)) (.slice (some ⟨b, off, none⟩) xs.length cap)) (fun i' _ => es.length - (intOf i').toNat)
      case atStart => exact ⟨0, Nat.zero_le _, rfl, HA.out, Below.refl _ _, B2⟩
      case round =>
        clear B2
        obtain ⟨p, hpl, rfl, hall, hb, hB⟩ := hrel
        have bwr := bw2.trans (hb.mono bw2.size)
        have ⟨zr2, cr2, dr2⟩ := hB
        have HL := Lib.hid hall
        clear hall
        by_cases hlt2 : p < es.length
        · obtain ⟨l, hll, hlb, hle⟩ : ∃ l : Nat, l < xs.length ∧ hasB (nth xs k) l = true ∧ nth es p = (l : Int) := by
            have := elem_at hp hlt (m := p) (by rw [← HES.out]; exact hlt2)
            rw [← HES.out] at this
            obtain ⟨l, h1, h2, h3⟩ := this
            exact ⟨l, h1, h2, h3⟩
          obtain ⟨b3, off3, rfl, hbl3, hc3⟩ := (hr2.below hb).cell p hlt2
          rw [hle] at hc3
          have HLE := Lib.hid hle
          have HLB := Lib.hid hlb
          have l0 : (0 : Int) ≤ (l : Int) := by omega
          have l1 : (l : Int) < (xs.length : Int) := by omega
          have p1 : (p : Int) < (es.length : Int) := by omega
          have HAT : Hid (NoT xs k p l 0 0) := HL.out.at
          clear hle hlb
          go_wp2_with fail
          clear cr2 dr2 hc3
          go_loopw [6] (fun i' wr => ∃ m : Nat, m ≤ xs.length ∧ i' = .int .i64 m ∧ NoT xs k p l m 0 ∧ Below w2.heap.size w2 wr ∧ Box2 wr w.heap.size (.int .i64 (xs.length : Int)) (.slice (some ⟨b, off, none⟩) xs.length cap)) (fun i' _ => xs.length - (intOf i').toNat)
          case atStart => exact ⟨0, Nat.zero_le _, rfl, HAT.out, hb, hB⟩
          case round =>
            clear hb hB bwr
            obtain ⟨m, hm, rfl, hall, hb, hB⟩ := hrel
            have bwr := bw2.trans (hb.mono bw2.size)
            have ⟨zr3, cr3, dr3⟩ := hB
            have HM := Lib.hid hall
            clear hall
            by_cases hlt3 : m < xs.length
            · have pm := hp.pos m hlt3
              have sm := hp.small m hlt3
              have m0 : (0 : Int) ≤ (m : Int) := by omega
              have m1 : (m : Int) < (xs.length : Int) := by omega
              obtain ⟨b4, off4, e4, hbl4, hcm⟩ := (hx.below bwr).cell m hlt3
              simp only [Option.some.injEq, Addr.mk.injEq, and_true] at e4
              obtain ⟨rfl, rfl⟩ := e4
              obtain ⟨fs, hfs⟩ : ∃ fs, fs = elems (nth xs m).toNat := ⟨_, rfl⟩
              have hfsl : fs.length ≤ 10 := by rw [hfs]; exact elems_len _
              have HFS := Lib.hid hfs
              clear hfs
              go_wp2_with fail
              refine (orList_any _ _ pm sm).mono ?_
              rw [← HFS.out]
              rintro e w3 ⟨a3, c3, rfl, ho3, hb3⟩
              have bw3 := bwr.trans (hb3.mono bwr.size)
              have b23 := hb.trans (hb3.mono hb.size)
              have B3 := hB.below hb3
              have hr3 := ho3.rd
              clear ho3 hb3 hcm cr3 dr3 hb hB bwr
              go_wp2_with fail
              go_loopw [39] (fun i' wr => ∃ q : Nat, q ≤ fs.length ∧ i' = .int .i64 q ∧ NoT xs k p l m q ∧ Below w3.heap.size w3 wr ∧ Box2 wr w.heap.size (.int .i64 (xs.length : Int)) (.slice (some ⟨b, off, none⟩) xs.length cap)) (fun i' _ => fs.length - (intOf i').toNat)
              case atStart => exact ⟨0, Nat.zero_le _, rfl, HM.out, Below.refl _ _, B3⟩
              case round =>
                clear B3
                obtain ⟨q, hq, rfl, hall, hb, hB⟩ := hrel
                have bwr := bw3.trans (hb.mono bw3.size)
                have ⟨zr4, cr4, dr4⟩ := hB
                have HQ := Lib.hid hall
                clear hall
                by_cases hlt4 : q < fs.length
                · obtain ⟨d, hdl, hdb, hde⟩ : ∃ d : Nat, d < xs.length ∧ hasB (nth xs m) d = true ∧ nth fs q = (d : Int) := by
                    have := elem_at hp hlt3 (m := q) (by rw [← HFS.out]; exact hlt4)
                    rw [← HFS.out] at this
                    obtain ⟨l, h1, h2, h3⟩ := this
                    exact ⟨l, h1, h2, h3⟩
                  obtain ⟨b5, off5, rfl, hbl5, hc5⟩ := (hr3.below hb).cell q hlt4
                  rw [hde] at hc5
                  have HDE : Hid ((nth (elems (nth xs m).toNat) q).toNat = d) := by rw [Hid, ← HFS.out, hde]; rfl
                  have HDB := Lib.hid hdb
                  have q1 : (q : Int) < (fs.length : Int) := by omega
                  clear hde hdb
                  go_wp2_with fail
                  refine (seIndifferent_any _ _ _ _ k d _ (hx.below bwr) hp hlt).mono ?_
                  rintro e w4 ⟨rfl, hb4⟩
                  have b34 := hb.trans (hb4.mono hb.size)
                  have bw4 := bwr.trans (hb4.mono bwr.size)
                  have B4 := hB.below hb4
                  have ⟨zr5, cr5, dr5⟩ := B4
                  clear hb4 hb hB cr4 dr4 hc5
                  cases h1 : frB xs k d
                  · have hfin : Hid (NoT xs k p l m (q+1)) := HQ.out.d (by rw [HDE.out]; simp [twD, h1])
                    go_wp2_with fail
                    go_roundw
                    case rel => exact ⟨q + 1, by omega, by go_num, hfin.out, b34, B4⟩
                    case measure => simp [intOf]; omega
                  · have H1 := Lib.hid h1
                    clear h1
                    go_wp2_with fail
                    refine (seIndifferent_any _ _ _ _ m l _ (hx.below bw4) hp hlt3).mono ?_
                    rintro e w5 ⟨rfl, hb5⟩
                    have b35 := b34.trans (hb5.mono b34.size)
                    have bw5 := bw4.trans (hb5.mono bw4.size)
                    have B5 := B4.below hb5
                    clear hb5 b34 bw4 B4 cr5 dr5
                    cases h2 : frB xs m l
                    · have hfin : Hid (NoT xs k p l m (q+1)) := HQ.out.d (by rw [HDE.out]; simp [twD, h2])
                      go_wp2_with fail
                      go_roundw
                      case rel => exact ⟨q + 1, by omega, by go_num, hfin.out, b35, B5⟩
                      case measure => simp [intOf]; omega
                    · have hfin : Hid (twAny xs = true) := twAny_iff.2 ⟨k, l, m, d, hlt, hll, hlt3, hdl, HLB.out, HDB.out, by simp [twD, H1.out, h2]⟩
                      go_wp2_with fail
                      go_ret
                      exact ⟨ret_bool hfin.out.symm, bw5⟩
                · obtain rfl : q = fs.length := by omega
                  have hfin : Hid (NoT xs k p l (m+1) 0) := by
                    have h1 := HQ.out
                    rw [HFS.out] at h1
                    exact h1.c hp hlt3
                  go_wp2_with fail
                  go_roundw
                  case rel => exact ⟨m + 1, by omega, by go_num, hfin.out, b23.trans (hb.mono b23.size), hB⟩
                  case measure => simp [intOf]; omega
            · obtain rfl : m = xs.length := by omega
              have hfin : Hid (NoT xs k (p+1) 0 0 0) := HM.out.b (by rw [← HES.out, HLE.out]; rfl)
              go_wp2_with fail
              go_roundw
              case rel => exact ⟨p + 1, by omega, by go_num, hfin.out, hb, hB⟩
              case measure => simp [intOf]; omega
        · obtain rfl : p = es.length := by omega
          have hfin : Hid (NoT xs (k+1) 0 0 0 0) := by
            have h1 := HL.out
            rw [HES.out] at h1
            exact h1.a hp hlt
          go_wp2_with fail
          go_roundw
          case rel => exact ⟨k + 1, by omega, by go_num, hfin.out, bwr, hB⟩
          case measure => simp [intOf]; omega
    · obtain rfl : k = xs.length := by omega
      have ht : Hid (twAny xs = false) := HA.out.no
      go_wp2_with fail
      go_ret
      exact ⟨ret_bool ht.out.symm, hb⟩

theorem OwnI.new (w : World) (xs : List Int) (h : xs.length ≤ 1048576) : OwnI (w.alloc (.cells (xs.map (Value.int .i64)).toArray 3)) w.heap.size (.slice (some ⟨w.heap.size, 0, none⟩) xs.length xs.length) xs :=
  ⟨by simp, .inr ⟨w.heap.size, xs.length, (xs.map (Value.int .i64)).toArray, rfl, Nat.le_refl _, heap_alloc_new w _, Nat.le_refl _, by unfold maxLen; omega, by simp, by simp [List.take_of_length_le]⟩⟩

/-- nothing has been found ahead of the places p, q of the lists -/
def NoS (xs : List Int) (k p l q : Nat) : Prop := (∀ a, a < k → thrA xs a = none) ∧ (∀ i, i < p → thrB xs k (nth (elems (nth xs k).toNat) i).toNat = none) ∧ ∀ i, i < q → thrC xs k l (nth (elems (nth xs l).toNat) i).toNat = none
theorem NoS.c {xs : List Int} {k p l q : Nat} (h : NoS xs k p l q) (h1 : thrC xs k l (nth (elems (nth xs l).toNat) q).toNat = none) : NoS xs k p l (q+1) :=
  ⟨h.1, h.2.1, fun i hi => by
    by_cases e : i = q
    · subst e; exact h1
    · exact h.2.2 i (by omega)⟩
theorem NoS.b {xs : List Int} {k p l l' : Nat} (h : NoS xs k p l (elems (nth xs l).toNat).length) (he : (nth (elems (nth xs k).toNat) p).toNat = l) : NoS xs k (p+1) l' 0 :=
  ⟨h.1, fun i hi => by
    by_cases e : i = p
    · subst e; rw [he]; exact findE_nil h.2.2
    · exact h.2.1 i (by omega), fun i hi => by omega⟩
theorem NoS.a {xs : List Int} {k l l' : Nat} (h : NoS xs k (elems (nth xs k).toNat).length l 0) : NoS xs (k+1) 0 l' 0 :=
  ⟨fun a ha => by
    by_cases e : a = k
    · subst e; exact findE_nil h.2.1
    · exact h.1 a (by omega), fun i hi => by omega, fun i hi => by omega⟩
theorem NoS.at {xs : List Int} {k p l l' : Nat} (h : NoS xs k p l 0) : NoS xs k p l' 0 := ⟨h.1, h.2.1, fun i hi => by omega⟩
theorem NoS.no {xs : List Int} {p l q : Nat} (h : NoS xs xs.length p l q) : thrF xs = none := find1_none h.1
theorem NoS.yes {xs : List Int} {k p l q m : Nat} {ys : List Int} (h : NoS xs k p l q) (hk : k < xs.length) (hp : p < (elems (nth xs k).toNat).length) (hq : q < (elems (nth xs l).toNat).length) (e1 : (nth (elems (nth xs k).toNat) p).toNat = l) (e2 : (nth (elems (nth xs l).toNat) q).toNat = m) (h3 : thrC xs k l m = some ys) : thrF xs = some ys := by
  refine find1_some hk (findE_at hp ?_ h.2.1) h.1
  rw [e1]
  exact findE_at hq (by rw [e2]; exact h3) h.2.2
set_option maxRecDepth 100000 in
theorem sThree_any (n : Int) (a : Option Addr) (xs : List Int) (cap : Nat) (w : World) (hn : -9223372036854775808 ≤ n ∧ n ≤ 9223372036854775807) (hx : Rd w a xs) :
    Calls Tryd.prog 13 #[.agg #[.int .i64 n, .slice a xs.length cap]] w fun e w' => ∃ a' cap', e = .returned (.tuple #[.slice a' (thrL n xs).length cap', .bool (thrO n xs)]) ∧ OwnI w' w.heap.size (.slice a' (thrL n xs).length cap') (thrL n xs) ∧ Below w.heap.size w w' := by
  have hx1 := hx.alloc (.cells #[.int .i64 n, .slice a xs.length cap] 28)
  cases hr : ordB n xs
  · have H1 : Hid (thrL n xs = []) := by simp [Hid, thrL, hr]
    have H2 : Hid (thrO n xs = false) := by simp [Hid, thrO, hr]
    go_enter Tryd.func13, Tryd.ntmps13
    go_wp2_with fail
    refine (orGood_any _ _ _ _ _ hx1).mono ?_
    rw [hr]
    rintro e w1 ⟨rfl, hb1⟩
    have bw1 : Below w.heap.size w w1 := Below.trans (by repeat (first | exact Below.refl _ _ | assumption | refine Below.alloc ?_ (by first | exact Nat.le_refl _ | (simp only [World.size_alloc, World.size_setCell, World.size_drew]; omega) | omega) _ | refine Below.setCell ?_ (by first | exact Nat.le_refl _ | (simp only [World.size_alloc, World.size_setCell, World.size_drew]; omega) | omega) _ | refine Below.drew ?_)) (hb1.mono (by first | (simp only [World.size_alloc, World.size_setCell, World.size_drew]; omega) | omega))
    go_wp2_with fail
    refine bodyPost_ret (v := .tuple #[.slice none 0 0, .bool false]) (by simp [results, Tryd.results13, go_sem]) rfl ?_
    exact ⟨none, 0, by rw [H1.out, H2.out]; rfl, by rw [H1.out]; exact OwnI.nil _ _, bw1⟩
  · have hp := ord_rel hr
    have h10 : xs.length ≤ 10 := by have := hp.len; have := hp.n1; omega
    have HR := Lib.hid hr
    obtain rfl : n = (xs.length : Int) := hp.len.symm
    clear hr
    go_enter Tryd.func13, Tryd.ntmps13
    go_wp2_with fail
    refine (orGood_any _ _ _ _ _ hx1).mono ?_
    rw [HR.out]
    rintro e w1 ⟨rfl, hb1⟩
    have A1 : Box2 w1 w.heap.size (.int .i64 (xs.length : Int)) (.slice a xs.length cap) := (Box2.new w _ _ _).below hb1
    have bw1 : Below w.heap.size w w1 := Below.trans (by repeat (first | exact Below.refl _ _ | assumption | refine Below.alloc ?_ (by first | exact Nat.le_refl _ | (simp only [World.size_alloc, World.size_setCell, World.size_drew]; omega) | omega) _ | refine Below.setCell ?_ (by first | exact Nat.le_refl _ | (simp only [World.size_alloc, World.size_setCell, World.size_drew]; omega) | omega) _ | refine Below.drew ?_)) (hb1.mono (by first | (simp only [World.size_alloc, World.size_setCell, World.size_drew]; omega) | omega))
    have ⟨zA, cA, dA⟩ := A1
    clear hb1
    go_wp2_with fail
    clear cA dA
    go_loopw [4] (fun i' wr => ∃ k : Nat, k ≤ xs.length ∧ i' = .int .i64 k ∧ NoS xs k 0 0 0 ∧ Below w.heap.size w wr ∧ Box2 wr w.heap.size (.int .i64 (xs.length : Int)) (.slice a xs.length cap)) (fun i' _ => xs.length - (intOf i').toNat)
    case atStart => exact ⟨0, Nat.zero_le _, rfl, ⟨fun c hc => by omega, fun b hb => by omega, fun b hb => by omega⟩, bw1, A1⟩
    case round =>
      clear A1 bw1
      obtain ⟨k, hk, rfl, hall, hb, hB⟩ := hrel
      have ⟨zr, cr, dr⟩ := hB
      have HA := Lib.hid hall
      clear hall
      by_cases hlt : k < xs.length
      · have pk := hp.pos k hlt
        have sk := hp.small k hlt
        have k0 : (0 : Int) ≤ (k : Int) := by omega
        have k1 : (k : Int) < (xs.length : Int) := by omega
        obtain ⟨b, off, rfl, hbl, hck⟩ := (hx.below hb).cell k hlt
        obtain ⟨es, hes⟩ : ∃ es, es = elems (nth xs k).toNat := ⟨_, rfl⟩
        have hesl : es.length ≤ 10 := by rw [hes]; exact elems_len _
        have HES := Lib.hid hes
        clear hes
        go_wp2_with fail
        refine (orList_any _ _ pk sk).mono ?_
        rw [← HES.out]
        rintro e w2 ⟨a2, c2, rfl, ho2, hb2⟩
        have bw2 := hb.trans (hb2.mono hb.size)
        have B2 := hB.below hb2
        have hr2 := ho2.rd
        clear ho2 hb2 hck cr dr
        go_wp2_with fail
        go_loopw [27] (fun i' wr => ∃ p : Nat, p ≤ es.length ∧ i' = .int .i64 p ∧ NoS xs k p 0 0 ∧ Below w2.heap.size w2 wr ∧ Box2 wr w.heap.size (.int .i64 (xs.length : Int)) (.slice (some ⟨b, off, none⟩) xs.length cap)) (fun i' _ => es.length - (intOf i').toNat)
        case atStart => exact ⟨0, Nat.zero_le _, rfl, HA.out, Below.refl _ _, B2⟩
        case round =>
          clear B2 hb hB
          obtain ⟨p, hpl, rfl, hall, hb, hB⟩ := hrel
          have bwr := bw2.trans (hb.mono bw2.size)
          have ⟨zr2, cr2, dr2⟩ := hB
          have HL := Lib.hid hall
          clear hall
          by_cases hlt2 : p < es.length
          · obtain ⟨l, hll, hlb, hle⟩ : ∃ l : Nat, l < xs.length ∧ hasB (nth xs k) l = true ∧ nth es p = (l : Int) := by
              have := elem_at hp hlt (m := p) (by rw [← HES.out]; exact hlt2)
              rw [← HES.out] at this
              obtain ⟨l, h1, h2, h3⟩ := this
              exact ⟨l, h1, h2, h3⟩
            obtain ⟨b3, off3, rfl, hbl3, hc3⟩ := (hr2.below hb).cell p hlt2
            rw [hle] at hc3
            have HLE := Lib.hid hle
            have HLB := Lib.hid hlb
            obtain ⟨b4, off4, e4, hbl4, hcl⟩ := (hx.below bwr).cell l hll
            simp only [Option.some.injEq, Addr.mk.injEq, and_true] at e4
            obtain ⟨rfl, rfl⟩ := e4
            have pl := hp.pos l hll
            have sl := hp.small l hll
            have l0 : (0 : Int) ≤ (l : Int) := by omega
            have l1 : (l : Int) < (xs.length : Int) := by omega
            have p1 : (p : Int) < (es.length : Int) := by omega
            obtain ⟨fs, hfs⟩ : ∃ fs, fs = elems (nth xs l).toNat := ⟨_, rfl⟩
            have hfsl : fs.length ≤ 10 := by rw [hfs]; exact elems_len _
            have HFS := Lib.hid hfs
            clear hfs hle hlb
            go_wp2_with fail
            refine (orList_any _ _ pl sl).mono ?_
            rw [← HFS.out]
            rintro e w3 ⟨a3, c3, rfl, ho3, hb3⟩
            have bw3 := bwr.trans (hb3.mono bwr.size)
            have b23 := hb.trans (hb3.mono hb.size)
            have B3 := hB.below hb3
            have hr3 := ho3.rd
            clear ho3 hb3 hcl cr2 dr2 hc3 hb
            go_wp2_with fail
            go_loopw [38] (fun i' wr => ∃ q : Nat, q ≤ fs.length ∧ i' = .int .i64 q ∧ NoS xs k p l q ∧ Below w3.heap.size w3 wr ∧ Box2 wr w.heap.size (.int .i64 (xs.length : Int)) (.slice (some ⟨b, off, none⟩) xs.length cap)) (fun i' _ => fs.length - (intOf i').toNat)
            case atStart => exact ⟨0, Nat.zero_le _, rfl, HL.out.at, Below.refl _ _, B3⟩
            case round =>
              clear B3 hB bwr
              obtain ⟨q, hq, rfl, hall, hb, hB⟩ := hrel
              have bwr := bw3.trans (hb.mono bw3.size)
              have HM := Lib.hid hall
              clear hall
              by_cases hlt3 : q < fs.length
              · have ⟨zr3, cr3, dr3⟩ := hB
                obtain ⟨m, hml, hmb, hme⟩ : ∃ m : Nat, m < xs.length ∧ hasB (nth xs l) m = true ∧ nth fs q = (m : Int) := by
                  have := elem_at hp hll (m := q) (by rw [← HFS.out]; exact hlt3)
                  rw [← HFS.out] at this
                  obtain ⟨m, h1, h2, h3⟩ := this
                  exact ⟨m, h1, h2, h3⟩
                obtain ⟨b5, off5, rfl, hbl5, hc5⟩ := (hr3.below hb).cell q hlt3
                rw [hme] at hc5
                have HME := Lib.hid hme
                have m0 : (0 : Int) ≤ (m : Int) := by omega
                have q1 : (q : Int) < (fs.length : Int) := by omega
                obtain ⟨S, hS⟩ : ∃ S, S = thrS xs k l m := ⟨_, rfl⟩
                have hSl : S < 1024 := by rw [hS]; exact thrS_lt h10 k l m
                have HAND : Hid (bits .and .i64 (bits .and .i64 ((freeN xs k : Nat) : Int) ((freeN xs l : Nat) : Int)) ((freeN xs m : Nat) : Int) = (S : Int)) := by
                  have u1 := freeN_lt h10 k
                  have u2 := freeN_lt h10 l
                  have u3 := freeN_lt h10 m
                  rw [Hid, and_nat _ _ (by omega) (by omega), hS]
                  exact and_nat _ _ (Nat.lt_of_le_of_lt Nat.and_le_left (by omega)) (by omega)
                have HS := Lib.hid hS
                have S0 : (0 : Int) ≤ (S : Int) := by omega
                have S1 : (S : Int) < 1024 := by omega
                obtain ⟨gs, hgs⟩ : ∃ gs, gs = elems S := ⟨_, rfl⟩
                have hgsl : gs.length ≤ 10 := by rw [hgs]; exact elems_len _
                have HGS := Lib.hid hgs
                have HEN : Hid (elems ((S : Int).toNat) = gs) := by rw [Hid, hgs]; rfl
                clear hS hgs hme hmb
                go_wp2_with fail
                go_region_held3 (fun w' => w'.cell? ⟨w.heap.size, 0, none⟩ = some (.int .i64 (xs.length : Int)) ∧ w'.cell? ⟨w.heap.size, 1, none⟩ = some (.slice (some ⟨b, off, none⟩) xs.length cap))
                  (first | exact ⟨A7.2.1, A7.2.2⟩ | exact ⟨A6.2.1, A6.2.2⟩ | exact ⟨A5.2.1, A5.2.2⟩ | exact ⟨A4.2.1, A4.2.2⟩ | go_keep)
                  (first | (have _g := ht6; go_at_call 40; rw [HAND.out]; refine (orList_any _ _ S0 S1).mono ?_; rw [HEN.out]; rintro e w7 ⟨a7, c7, rfl, ho7, hb7⟩; have A7 := A6.below hb7) | (have _g := ht5; go_at_call 41; refine (orFree_any _ _ _ _ m _ (hx.below bw5) hp hml).mono ?_; rintro e w6 ⟨rfl, hb6⟩; have ht6 := ht5.trans (hb6.mono ht5.size); have A6 := A5.below hb6; have bw6 := bwr.trans (ht6.mono bwr.size)) | (have _g := ht4; go_at_call 41; refine (orFree_any _ _ _ _ l _ (hx.below bw4) hp hll).mono ?_; rintro e w5 ⟨rfl, hb5⟩; have ht5 := ht4.trans (hb5.mono ht4.size); have A5 := A4.below hb5; have bw5 := bwr.trans (ht5.mono bwr.size)) | (go_at_call 41; refine (orFree_any _ _ _ _ k _ (hx.below (bwr.trans (Joins.below_draws _ _ _))) hp hlt).mono ?_; rintro e w4 ⟨rfl, hb4⟩; have ht4 : Below wr.heap.size wr w4 := (Joins.below_draws _ _ _).trans hb4; have A4 := hB.below ht4; have bw4 := bwr.trans (ht4.mono bwr.size)))
                have ht7 := ht6.trans (hb7.mono ht6.size)
                have bw7 := bwr.trans (ht7.mono bwr.size)
                have b37 := hb.trans (ht7.mono hb.size)
                have hr7 := ho7.rd
                clear ho7 hb7 hb4 hb5 hb6 ht4 ht5 ht6 A4 A5 A6 bw4 bw5 bw6 hc5 cr3 dr3
                go_wp2_with fail
                by_cases hg0 : gs.length = 0
                · have hfin : Hid (NoS xs k p l (q+1)) := by
                    refine HM.out.c ?_
                    rw [← HFS.out, HME.out, Int.toNat_natCast, thrC, ← HS.out]
                    exact findE_nil (fun i hi => by rw [← HGS.out] at hi; omega)
                  have hg1 : ¬ (0 : Int) < (gs.length : Int) := by omega
                  go_loopw [55] (fun i' wr => i' = .int .i64 0 ∧ wr = w7) (fun _ _ => 0)
                  case atStart => exact ⟨rfl, rfl⟩
                  case round =>
                    obtain ⟨rfl, rfl⟩ := hrel
                    go_wp2_with fail
                    go_roundw
                    case rel => exact ⟨q + 1, by omega, by go_num, hfin.out, b37, A7⟩
                    case measure => simp [intOf]; omega
                · have hgp : 0 < gs.length := Nat.pos_of_ne_zero hg0
                  have hg1 : (0 : Int) < (gs.length : Int) := by omega
                  obtain ⟨b8, off8, rfl, hbl8, hc8⟩ := hr7.cell 0 hgp
                  rw [Nat.add_zero] at hc8
                  have hd : 0 ≤ nth gs 0 := by
                    have h1 := nth_mem hgp
                    rw [HGS.out, mem_elems hSl] at h1
                    obtain ⟨d, _, e⟩ := h1
                    rw [HGS.out, e]; omega
                  have hfour : thrC xs k l m = some (four k l m (nth gs 0).toNat) := by
                    rw [thrC, ← HS.out]
                    exact findE_at (p := 0) (by rw [← HGS.out]; exact hgp) (by rw [← HGS.out]) (fun i hi => by omega)
                  have ht := HM.out.yes hlt (by rw [← HES.out]; exact hlt2) (by rw [← HFS.out]; exact hlt3) (by rw [← HES.out, HLE.out]; rfl) (by rw [← HFS.out, HME.out]; rfl) hfour
                  have H1' : Hid (thrL (xs.length : Int) xs = [(k : Int), (l : Int), (m : Int), nth gs 0]) := by
                    simp only [Hid, thrL, HR.out, ht]
                    simp only [four, if_true, Option.getD_some]
                    rw [show (((nth gs 0).toNat : Nat) : Int) = nth gs 0 from by omega]
                  have H2' : Hid (thrO (xs.length : Int) xs = true) := by simp only [Hid, thrO, HR.out, ht]; rfl
                  clear hg0 hfour ht
                  go_loopw [55] (fun i' wr => i' = .int .i64 0 ∧ wr = w7) (fun _ _ => 0)
                  case atStart => exact ⟨rfl, rfl⟩
                  case round =>
                    obtain ⟨rfl, rfl⟩ := hrel
                    go_wp2_with fail
                    refine bodyPost_ret (v := .tuple #[.slice (some ⟨wr.heap.size, 0, none⟩) 4 4, .bool true]) (by simp [results, Tryd.results13, go_sem]) rfl ?_
                    refine ⟨some ⟨wr.heap.size, 0, none⟩, 4, by rw [H1'.out, H2'.out]; rfl, ?_, bw7.alloc bw7.size _⟩
                    rw [H1'.out]
                    exact (OwnI.new wr [(k : Int), (l : Int), (m : Int), nth gs 0] (by simp)).mono bw7.size
              · obtain rfl : q = fs.length := by omega
                have hfin : Hid (NoS xs k (p+1) 0 0) := by
                  have h1 := HM.out
                  rw [HFS.out] at h1
                  exact h1.b (by rw [← HES.out, HLE.out]; rfl)
                go_wp2_with fail
                go_roundw
                case rel => exact ⟨p + 1, by omega, by go_num, hfin.out, b23.trans (hb.mono b23.size), hB⟩
                case measure => simp [intOf]; omega
          · obtain rfl : p = es.length := by omega
            have hfin : Hid (NoS xs (k+1) 0 0 0) := by
              have h1 := HL.out
              rw [HES.out] at h1
              exact h1.a
            go_wp2_with fail
            go_roundw
            case rel => exact ⟨k + 1, by omega, by go_num, hfin.out, bwr, hB⟩
            case measure => simp [intOf]; omega
      · obtain rfl : k = xs.length := by omega
        have ht := HA.out.no
        have H1 : Hid (thrL (xs.length : Int) xs = []) := by simp only [Hid, thrL, HR.out, ht]; rfl
        have H2 : Hid (thrO (xs.length : Int) xs = false) := by simp only [Hid, thrO, HR.out, ht]; rfl
        clear ht
        go_wp2_with fail
        refine bodyPost_ret (v := .tuple #[.slice none 0 0, .bool false]) (by simp [results, Tryd.results13, go_sem]) rfl ?_
        exact ⟨none, 0, by rw [H1.out, H2.out]; rfl, by rw [H1.out]; exact OwnI.nil _ _, hb⟩

theorem seGood_any (n : Int) (a : Option Addr) (xs : List Int) (cap : Nat) (w : World) (hn : -9223372036854775808 ≤ n ∧ n ≤ 9223372036854775807) (hx : Rd w a xs) :
    Calls Tryd.prog 46 #[.agg #[.int .i64 n, .slice a xs.length cap]] w fun e w' => e = .returned (.bool (semB n xs)) ∧ Below w.heap.size w w' := by
  have hx1 := hx.alloc (.cells #[.int .i64 n, .slice a xs.length cap] 28)
  go_enter Tryd.func46, Tryd.ntmps46
  go_wp2_with fail
  refine (sThree_any _ _ _ _ _ hn hx1).mono ?_
  rintro e w1 ⟨a1, c1, rfl, ho1, hb1⟩
  have A1 : Box2 w1 w.heap.size (.int .i64 n) (.slice a xs.length cap) := (Box2.new w _ _ _).below hb1
  have bw1 : Below w.heap.size w w1 := Below.trans (by repeat (first | exact Below.refl _ _ | assumption | refine Below.alloc ?_ (by first | exact Nat.le_refl _ | (simp only [World.size_alloc, World.size_setCell, World.size_drew]; omega) | omega) _ | refine Below.setCell ?_ (by first | exact Nat.le_refl _ | (simp only [World.size_alloc, World.size_setCell, World.size_drew]; omega) | omega) _ | refine Below.drew ?_)) (hb1.mono (by first | (simp only [World.size_alloc, World.size_setCell, World.size_drew]; omega) | omega))
  have ⟨zA, cA, dA⟩ := A1
  clear hb1 ho1
  go_wp2_with fail
  refine (orGood_any _ _ _ _ _ (hx.below bw1)).mono ?_
  rintro e w2 ⟨rfl, hb2⟩
  have bw2 := bw1.trans (hb2.mono bw1.size)
  have A2 := A1.below hb2
  have ⟨zA2, cA2, dA2⟩ := A2
  clear A1 zA cA dA hb2
  cases hr : ordB n xs
  · have HF : Hid (semB n xs = false) := by simp [Hid, semB, hr]
    have HR := Lib.hid hr
    clear hr
    go_wp2_with fail
    go_ret
    exact ⟨ret_bool HF.out.symm, bw2⟩
  · have hp := ord_rel hr
    cases ht : thrO n xs
    · have HF : Hid (semB n xs = !twAny xs) := by
        have : (thrF xs).isSome = false := by simpa [thrO, hr] using ht
        simp [Hid, semB, hr, this]
      clear ht hr
      go_wp2_with fail
      refine (seTwo_any _ _ _ _ _ (hx.below bw2) hp).mono ?_
      rintro e w3 ⟨rfl, hb3⟩
      go_wp2_with fail
      go_ret
      exact ⟨ret_bool (by rw [HF.out]), bw2.trans (hb3.mono bw2.size)⟩
    · have HF : Hid (semB n xs = false) := by
        have : (thrF xs).isSome = true := by simpa [thrO, hr] using ht
        simp [Hid, semB, hr, this]
      clear ht hr
      go_wp2_with fail
      go_ret
      exact ⟨ret_bool HF.out.symm, bw2⟩

theorem sStairOf_any (n : Int) (a : Option Addr) (xs : List Int) (cap : Nat) (w : World) (hn : -9223372036854775808 ≤ n ∧ n ≤ 9223372036854775807) (hx : Rd w a xs) :
    Calls Tryd.prog 25 #[.agg #[.int .i64 n, .slice a xs.length cap]] w fun e w' => ∃ a' cap', e = .returned (.tuple #[.slice a' (stoL n xs).length cap', .bool (semB n xs)]) ∧ OwnI w' w.heap.size (.slice a' (stoL n xs).length cap') (stoL n xs) ∧ Below w.heap.size w w' := by
  have hx1 := hx.alloc (.cells #[.int .i64 n, .slice a xs.length cap] 28)
  cases hs : semB n xs
  · have H1 : Hid (stoL n xs = []) := by simp [Hid, stoL, hs]
    have HS := Lib.hid hs
    clear hs
    go_enter Tryd.func25, Tryd.ntmps25
    go_wp2_with fail
    refine (seGood_any _ _ _ _ _ hn hx1).mono ?_
    rw [HS.out]
    rintro e w1 ⟨rfl, hb1⟩
    have bw1 : Below w.heap.size w w1 := Below.trans (by repeat (first | exact Below.refl _ _ | assumption | refine Below.alloc ?_ (by first | exact Nat.le_refl _ | (simp only [World.size_alloc, World.size_setCell, World.size_drew]; omega) | omega) _ | refine Below.setCell ?_ (by first | exact Nat.le_refl _ | (simp only [World.size_alloc, World.size_setCell, World.size_drew]; omega) | omega) _ | refine Below.drew ?_)) (hb1.mono (by first | (simp only [World.size_alloc, World.size_setCell, World.size_drew]; omega) | omega))
    go_wp2_with fail
    refine bodyPost_ret (v := .tuple #[.slice none 0 0, .bool false]) (by simp [results, Tryd.results25, go_sem]) rfl ?_
    exact ⟨none, 0, by rw [H1.out]; rfl, by rw [H1.out]; exact OwnI.nil _ _, bw1⟩
  · have hp := ord_rel (sem_ord hs)
    have H1 : Hid (stoL n xs = srt (cnts xs xs.length)) := by simp [Hid, stoL, hs]
    have HSL : Hid ((srt (cnts xs xs.length)).length = xs.length) := by rw [Hid, srt_len, cnts_len]
    have HS := Lib.hid hs
    clear hs
    go_enter Tryd.func25, Tryd.ntmps25
    go_wp2_with fail
    refine (seGood_any _ _ _ _ _ hn hx1).mono ?_
    rw [HS.out]
    rintro e w1 ⟨rfl, hb1⟩
    have A1 : Box2 w1 w.heap.size (.int .i64 n) (.slice a xs.length cap) := (Box2.new w _ _ _).below hb1
    have bw1 : Below w.heap.size w w1 := Below.trans (by repeat (first | exact Below.refl _ _ | assumption | refine Below.alloc ?_ (by first | exact Nat.le_refl _ | (simp only [World.size_alloc, World.size_setCell, World.size_drew]; omega) | omega) _ | refine Below.setCell ?_ (by first | exact Nat.le_refl _ | (simp only [World.size_alloc, World.size_setCell, World.size_drew]; omega) | omega) _ | refine Below.drew ?_)) (hb1.mono (by first | (simp only [World.size_alloc, World.size_setCell, World.size_drew]; omega) | omega))
    have ⟨zA, cA, dA⟩ := A1
    clear hb1
    go_wp2_with fail
    refine (seStair_any _ _ _ _ _ (hx.below bw1) hp).mono ?_
    rintro e w2 ⟨a2, c2, rfl, ho2, hb2⟩
    go_wp2_with fail
    refine bodyPost_ret (v := .tuple #[.slice a2 xs.length c2, .bool true]) (by simp [results, Tryd.results25, go_sem]) rfl ?_
    exact ⟨a2, c2, by rw [H1.out, HSL.out], by rw [H1.out, HSL.out]; exact ho2.mono bw1.size, bw1.trans (hb2.mono bw1.size)⟩

/-- the table of 64 small numbers that the library reads -/
def tab64 : List Int := [0, 1, 56, 2, 57, 49, 28, 3, 61, 58, 42, 50, 38, 29, 17, 4, 62, 47, 59, 36, 45, 43, 51, 22, 53, 39, 33, 30, 24, 18, 12, 5, 63, 55, 48, 27, 60, 41, 37, 16, 46, 35, 44, 21, 52, 32, 23, 11, 54, 26, 40, 15, 34, 20, 31, 10, 25, 14, 19, 9, 13, 8, 7, 6]
/-- the table stands in its block -/
def TabOk (w : World) : Prop := 1 < w.heap.size ∧ ∀ k, k < 64 → w.cell? ⟨1, k, none⟩ = some (.int .u8 (nth tab64 k))
theorem TabOk.below {w w' : World} (h : TabOk w) (hb : Below w.heap.size w w') : TabOk w' :=
  ⟨Nat.lt_of_lt_of_le h.1 hb.size, fun k hk => (hb.cell (p := ⟨1, k, none⟩) h.1).trans (h.2 k hk)⟩
theorem gTab32 : Tryd.prog.globalNamed "math/bits.deBruijn32tab" = some 0 := by kernel_rfl
theorem gTab64 : Tryd.prog.globalNamed "math/bits.deBruijn64tab" = some 1 := by kernel_rfl
theorem tTab64 : (Tryd.prog.globals[1]?).map (·.type) = some 88 := by kernel_rfl
def ldT {H : Type} : List (String × DataW H) := [("math/bits.deBruijn32tab", Rows.laid_math_bits_deBruijn32tab), ("math/bits.deBruijn64tab", Rows.laid_math_bits_deBruijn64tab)]
theorem door_met (os : Os) (args : Array Value) : laidMetH Tryd.prog ldT ((World.doorLaid Tryd.prog 400 os).forCall (fun _ _ => 0) ⟨#[], args, []⟩).memory :=
  laidMetH_of_parts3 (fuel := 8) (laidMet_of_run' 8 (by kernel_rfl) (by kernel_rfl)) (by kernel_rfl) (by kernel_rfl)
set_option maxRecDepth 100000 in
theorem of_laid {W : World} (h : laidMetH Tryd.prog ldT W) : TabOk W := by
  unfold ldT at h
  rw [MakeChecks.laidMetH_plain _ _ _ (by kernel_rfl)] at h
  obtain ⟨ps, ⟨g0, t0, cs0, f0, p0, q0, hg0, ht0, hv0, hd0, ⟨g1, t1, cs1, f1, p1, q1, hg1, ht1, hv1, hd1, _, _⟩, _⟩, _, _⟩ := h
  obtain rfl := Option.some.inj (gTab32.symm.trans hg0)
  obtain rfl := Option.some.inj (gTab64.symm.trans hg1)
  obtain rfl := Option.some.inj (tTab64.symm.trans ht1)
  obtain ⟨xs, m1, e1, hx1, hlen, hn3, hel⟩ := DataW.trod_array Tryd.underlying88 hd1
  have c5 : Tryd.prog.cellsOf 5 = 1 := by kernel_rfl
  have c64 : Tryd.prog.cellsOf 88 = 64 := by kernel_rfl
  rw [c64] at hlen
  have hL : (Rows.laid_math_bits_deBruijn64tab : DataW Unit) = .agg (tab64.map fun z => .lit (.int .u8 z)) := rfl
  rw [hL] at hx1
  simp only [Prod.mk.injEq, DataW.agg.injEq] at hx1
  have cell : ∀ k, k < 64 → W.cell? ⟨1, k, none⟩ = some (.int .u8 (nth tab64 k)) := by
    intro k hk
    have h1 := hel k hk
    have hk2 : k < cs1.toList.length := by omega
    have hd : List.take 1 (List.drop (k * 1) cs1.toList) = [cs1.toList[k]] := by
      rw [Nat.mul_one, List.drop_eq_getElem_cons hk2]; rfl
    rw [c5, hd] at h1
    have hxk : k < xs.length := by omega
    rw [List.getElem?_eq_getElem hxk] at h1
    obtain ⟨z, e2, e3, _⟩ := DataW.trod_int Tryd.underlying5 h1
    have h2 : (xs.map fun x => x.fst)[k]'(by simpa using hxk) = xs[k].fst := by simp
    have h3 : (tab64.map fun z => (DataW.lit (.int .u8 z) : DataW Unit))[k]'(by simp [tab64]; omega) = .lit (.int .u8 (nth tab64 k)) := by
      rw [List.getElem_map, nth_get tab64 k (by simp [tab64]; omega)]
    have h4 : (DataW.lit (.int .u8 (nth tab64 k)) : DataW Unit) = xs[k].fst := by rw [← h3, ← h2]; exact List.getElem_of_eq hx1.1 _
    have h5 : z = nth tab64 k := by
      rw [e3] at h4
      simpa using h4.symm
    have h6 := World.var?_cell hg1 hv1 k
    rw [h6]
    have h7 : cs1[k]? = some cs1.toList[k] := by rw [← Array.getElem?_toList, List.getElem?_eq_getElem hk2]
    rw [h7]
    simp only [List.cons.injEq, and_true] at e2
    rw [e2, h5]
  exact ⟨World.block_lt_of_cell? _ _ (cell 0 (by omega)), cell⟩

/-- the least element of a set below 1024 -/
def lowN (s : Nat) : Nat := ((List.range 10).find? (fun k => s.testBit k)).getD 0
def ixN (s : Nat) : Int := IntKind.u64.wrap (bits .and .u64 (s : Int) (IntKind.u64.wrap (-(s : Int))) * 285870213051353865) / 288230376151711744
def tzOk (s : Nat) : Bool := decide (0 ≤ ixN s) && decide (ixN s < 64) && decide (nth tab64 (ixN s).toNat = ((lowN s : Nat) : Int)) && decide (lowN s < 10)
theorem tz_all : ∀ s : Fin 1024, (s.val == 0 || tzOk s.val) = true := by decide +kernel
theorem tz_ok {s : Nat} (h0 : 0 < s) (h1 : s < 1024) : 0 ≤ ixN s ∧ ixN s < 64 ∧ nth tab64 (ixN s).toNat = ((lowN s : Nat) : Int) ∧ lowN s < 10 := by
  have h := tz_all ⟨s, h1⟩
  have hz : (s == 0) = false := by simp; omega
  simp only [hz, Bool.false_or, tzOk, Bool.and_eq_true, decide_eq_true_eq, and_assoc] at h
  exact h
theorem tz64_any (s : Nat) (w : World) (h0 : 0 < s) (h1 : s < 1024) (hT : TabOk w) :
    Calls Tryd.prog 99 #[.int .u64 (s : Int)] w fun e w' => e = .returned (.int .i64 ((lowN s : Nat) : Int)) ∧ w = w' := by
  have hz : ((s : Int) == 0) = false := by simp; omega
  obtain ⟨i0, i1, i2, i3⟩ := tz_ok h0 h1
  have hc := hT.2 (ixN s).toNat (by omega)
  rw [i2] at hc
  obtain ⟨d, hd⟩ : ∃ d, d = lowN s := ⟨_, rfl⟩
  rw [← hd] at hc i3 ⊢
  simp only [ixN] at hc i0 i1
  clear i2 hd hT
  go_enter Tryd.func99, Tryd.ntmps99
  go_wp2_with fail
  go_ret
  exact ⟨rfl, rfl⟩
theorem tz_any (s : Nat) (w : World) (h0 : 0 < s) (h1 : s < 1024) (hT : TabOk w) :
    Calls Tryd.prog 76 #[.int .u64 (s : Int)] w fun e w' => e = .returned (.int .i64 ((lowN s : Nat) : Int)) ∧ w = w' := by
  go_enter Tryd.func76, Tryd.ntmps76
  go_wp2_with fail
  refine (tz64_any s _ h0 h1 hT).mono ?_
  rintro e w' ⟨rfl, rfl⟩
  go_wp2_with fail
  go_ret
  exact ⟨rfl, rfl⟩

theorem low_find (s : Nat) (g : Nat → List Int) : ∀ n, find1 (fun d => if s.testBit d then some (g d) else none) n = ((List.range n).find? (fun k => s.testBit k)).map g := by
  intro n
  unfold find1
  induction (List.range n) with
  | nil => rfl
  | cons x l ih =>
    simp only [List.findSome?_cons, List.find?_cons]
    cases h : s.testBit x
    · simpa using ih
    · rfl
theorem thrC_low {xs : List Int} (h10 : xs.length ≤ 10) {a b c : Nat} (h : thrS xs a b c ≠ 0) : thrC xs a b c = some (four a b c (lowN (thrS xs a b c))) := by
  have hs := thrS_lt h10 a b c
  rw [thrC, findE_eq (n := 10) _ hs (by omega)]
  show find1 (fun d => if (thrS xs a b c).testBit d then some (four a b c d) else none) 10 = _
  rw [low_find (thrS xs a b c) (four a b c) 10]
  unfold lowN
  cases hf : (List.range 10).find? (fun k => (thrS xs a b c).testBit k) with
  | some d => simp
  | none =>
    exfalso
    apply h
    apply Nat.eq_of_testBit_eq
    intro i
    rw [Nat.zero_testBit]
    rcases Nat.lt_or_ge i 10 with hi | hi
    · rw [List.find?_eq_none] at hf
      simpa using hf i (by simpa using hi)
    · exact Nat.testBit_lt_two_pow (Nat.lt_of_lt_of_le hs (Nat.pow_le_pow_right (by omega : 0 < 2) hi))

theorem firstElement_any (s : Nat) (w : World) (h0 : 0 < s) (h1 : s < 1024) (hT : TabOk w) :
    Calls Tryd.prog 45 #[.int .i64 (s : Int)] w fun e w' => e = .returned (.int .i64 ((lowN s : Nat) : Int)) ∧ w = w' := by
  have s1 : (s : Int) < 1024 := by omega
  go_enter Tryd.func45, Tryd.ntmps45
  go_wp2_with fail
  refine (tz_any s _ h0 h1 hT).mono ?_
  rintro e w' ⟨rfl, rfl⟩
  go_wp2_with fail
  go_ret
  exact ⟨rfl, rfl⟩

/-- the set of all elements above one of those of a set that are less than k -/
def aboveTo (xs : List Int) (s : Int) : Nat → Nat
  | 0 => 0
  | k+1 => if hasB s k then aboveTo xs s k ||| (nth xs k).toNat else aboveTo xs s k
theorem aboveTo_lt {n : Int} {xs : List Int} (hp : RelP n xs) (s : Int) : ∀ k, k ≤ xs.length → aboveTo xs s k < 2 ^ 10
  | 0, _ => by simp [aboveTo]
  | k+1, hk => by
    have h := aboveTo_lt hp s k (by omega)
    have h1 := hp.small k (by omega)
    have h0 := hp.pos k (by omega)
    simp only [aboveTo]
    split
    · exact or_lt h (by omega)
    · exact h
theorem aboveTo_bit (xs : List Int) (s : Int) (j : Nat) : ∀ k, (aboveTo xs s k).testBit j = true ↔ ∃ i, i < k ∧ hasB s i = true ∧ (nth xs i).toNat.testBit j = true
  | 0 => by simp [aboveTo]
  | k+1 => by
    have ih := aboveTo_bit xs s j k
    simp only [aboveTo]
    cases hb : hasB s k
    · rw [if_neg (by simp), ih]
      constructor
      · rintro ⟨i, h1, h2, h3⟩
        exact ⟨i, by omega, h2, h3⟩
      · rintro ⟨i, h1, h2, h3⟩
        have : i ≠ k := fun e => by rw [e, hb] at h2; cases h2
        exact ⟨i, by omega, h2, h3⟩
    · rw [if_pos rfl, Nat.testBit_or, Bool.or_eq_true, ih]
      constructor
      · rintro (⟨i, h1, h2, h3⟩ | h)
        · exact ⟨i, by omega, h2, h3⟩
        · exact ⟨k, by omega, hb, h⟩
      · rintro ⟨i, h1, h2, h3⟩
        by_cases e : i = k
        · subst e; exact .inr h3
        · exact .inl ⟨i, by omega, h2, h3⟩
theorem okAtB_above {xs : List Int} {k : Nat} (h : hasB (nth xs k) k = false) : okAtB xs k = (sub (aboveTo xs (nth xs k) xs.length) (nth xs k).toNat == 0) := by
  rw [Bool.eq_iff_iff, okAtB_iff, beq_iff_eq, sub_zero]
  constructor
  · rintro ⟨_, h2⟩ i hi
    obtain ⟨j, hj, hb, ht⟩ := (aboveTo_bit _ _ _ _).1 hi
    exact sub_zero.1 (h2 j hj hb) i ht
  · intro h2
    refine ⟨h, fun j hj hb => sub_zero.2 (fun i hi => h2 i ((aboveTo_bit _ _ _ _).2 ⟨j, hj, hb, hi⟩))⟩

theorem hasElement_any (s i : Int) (w : World) (h0 : 0 ≤ s) (h1 : s ≤ 9223372036854775807) (hi : 0 ≤ i) :
    Calls Tryd.prog 43 #[.int .i64 s, .int .i64 i] w fun e w' => e = .returned (.bool (hasB s i)) ∧ w = w' := by
  have H := Lib.hid (has_and h0 h1 hi)
  go_enter Tryd.func43, Tryd.ntmps43
  go_wp2
  go_ret
  exact ⟨ret_bool H.out, rfl⟩

theorem aboveAny_any (n : Int) (a : Option Addr) (xs : List Int) (cap : Nat) (s : Int) (w : World) (hx : Rd w a xs) (hr : RelP n xs) (h0 : 0 ≤ s) (h1 : s ≤ 9223372036854775807) :
    Calls Tryd.prog 73 #[.agg #[.int .i64 n, .slice a xs.length cap], .int .i64 s] w fun e w' => e = .returned (.int .i64 (aboveTo xs s xs.length)) ∧ Below w.heap.size w w' := by
  have hx1 := hx.alloc (.cells #[.int .i64 n, .slice a xs.length cap] 28)
  obtain rfl : n = (xs.length : Int) := hr.len.symm
  have hn : xs.length ≤ 10 := by have := hr.n1; omega
  go_enter Tryd.func73, Tryd.ntmps73
  go_wp2_with fail
  go_loop [5, 9] (fun s' i' => ∃ k : Nat, k ≤ xs.length ∧ i' = .int .i64 k ∧ s' = .int .i64 (aboveTo xs s k)) (fun _ i => xs.length - (intOf i).toNat)
  case atStart => exact ⟨0, Nat.zero_le _, rfl, rfl⟩
  case round =>
    obtain ⟨k, hk, rfl, rfl⟩ := hrel
    by_cases hlt : k < xs.length
    · obtain ⟨b, off, rfl, hbl, hc⟩ := hx1.cell k hlt
      obtain ⟨b', off', e', hbl', hc'⟩ := hx.cell k hlt
      simp only [Option.some.injEq, Addr.mk.injEq, and_true] at e'
      obtain ⟨rfl, rfl⟩ := e'
      have hpk := hr.pos k hlt
      have hsk := hr.small k hlt
      have hab := aboveTo_lt hr s k hk
      have hor := Lib.hid (or_i (a := (aboveTo xs s k : Nat)) (b := nth xs k) (by omega) (by omega) hpk (by omega))
      clear hab
      cases hin : hasB s k
      · go_wp2_with (go_at_call 43; refine (hasElement_any _ _ _ h0 h1 (by omega)).mono ?_; rintro e w' ⟨rfl, rfl⟩)
        go_round
        case rel => exact ⟨k + 1, by omega, by go_num, by simp [aboveTo, hin]⟩
        case measure => simp [intOf]; omega
      · go_wp2_with (go_at_call 43; refine (hasElement_any _ _ _ h0 h1 (by omega)).mono ?_; rintro e w' ⟨rfl, rfl⟩)
        go_round
        case rel => exact ⟨k + 1, by omega, by go_num, val_int (by rw [hor.out]; simp [aboveTo, hin])⟩
        case measure => simp [intOf]; omega
    · obtain rfl : k = xs.length := by omega
      go_wp2_with fail
      go_ret
      exact ⟨rfl, (by repeat (first | exact Below.refl _ _ | assumption | refine Below.alloc ?_ (by first | exact Nat.le_refl _ | (simp only [World.size_alloc, World.size_setCell, World.size_drew]; omega) | omega) _ | refine Below.setCell ?_ (by first | exact Nat.le_refl _ | (simp only [World.size_alloc, World.size_setCell, World.size_drew]; omega) | omega) _ | refine Below.drew ?_))⟩

theorem fullSet_any (n : Int) (w : World) (h0 : 0 ≤ n) (h1 : n ≤ 10) :
    Calls Tryd.prog 74 #[.int .i64 n] w fun e w' => e = .returned (.int .i64 (2 ^ n.toNat - 1)) ∧ w = w' := by
  have hf := Lib.hid (full_eq h0 h1)
  go_enter Tryd.func74, Tryd.ntmps74
  go_wp2
  go_ret
  exact ⟨ret_int hf.out, rfl⟩

theorem isSet_any (s n : Int) (w : World) (h0' : 0 ≤ n) (h1' : n ≤ 10) :
    Calls Tryd.prog 123 #[.int .i64 s, .int .i64 n] w fun e w' => e = .returned (.bool (inB s 0 (2 ^ n.toNat - 1))) ∧ w = w' := by
  by_cases h0 : 0 ≤ s
  · by_cases h1 : s ≤ 2 ^ n.toNat - 1
    · have hf := Lib.hid (inB_iff.2 ⟨h0, h1⟩)
      go_enter Tryd.func123, Tryd.ntmps123
      go_wp2_with (go_at_call 74; refine (fullSet_any _ _ h0' h1').mono ?_; rintro e w' ⟨rfl, rfl⟩)
      go_ret
      exact ⟨ret_bool (by rw [hf.out]; try simp [h1]), rfl⟩
    · have hf := Lib.hid (inB_no (lo := 0).2 (.inr (show 2 ^ n.toNat - 1 < s by omega)))
      go_enter Tryd.func123, Tryd.ntmps123
      go_wp2_with (go_at_call 74; refine (fullSet_any _ _ h0' h1').mono ?_; rintro e w' ⟨rfl, rfl⟩)
      go_ret
      exact ⟨ret_bool (by rw [hf.out]; try simp [h1]), rfl⟩
  · have hf := Lib.hid (inB_no (hi := 2 ^ n.toNat - 1).2 (.inl (show s < 0 by omega)))
    go_enter Tryd.func123, Tryd.ntmps123
    go_wp2_with fail
    go_ret
    exact ⟨ret_bool (by rw [hf.out]; try simp [h1]), rfl⟩

theorem areSets_any (a : Option Addr) (xs : List Int) (cap : Nat) (n : Int) (w : World) (hx : Rd w a xs) (h0' : 0 ≤ n) (h1' : n ≤ 10) :
    Calls Tryd.prog 97 #[.slice a xs.length cap, .int .i64 n] w fun e w' => e = .returned (.bool (allB xs 0 (2 ^ n.toNat - 1))) ∧ w = w' := by
  have hlen := hx.len
  go_enter Tryd.func97, Tryd.ntmps97
  go_wp2_with fail
  go_loop [9] (fun i => ∃ k : Nat, k ≤ xs.length ∧ i = .int .i64 k ∧ allB (xs.take k) 0 (2 ^ n.toNat - 1) = true) (fun i => xs.length - (intOf i).toNat)
  case atStart => exact ⟨0, Nat.zero_le _, rfl, rfl⟩
  case round =>
    obtain ⟨k, hk, rfl, hall⟩ := hrel
    by_cases hlt : k < xs.length
    · obtain ⟨b, off, rfl, hbl, hc⟩ := hx.cell k hlt
      cases hin : inB (nth xs k) 0 (2 ^ n.toNat - 1)
      · have hf := Lib.hid (allB_false hlt hin)
        go_wp2_with (go_at_call 123; refine (isSet_any _ _ _ h0' h1').mono ?_; rintro e w' ⟨rfl, rfl⟩)
        go_ret
        exact ⟨ret_bool hf.out.symm, rfl⟩
      · go_wp2_with (go_at_call 123; refine (isSet_any _ _ _ h0' h1').mono ?_; rintro e w' ⟨rfl, rfl⟩)
        go_round
        case rel => exact ⟨k + 1, by omega, by go_num, by rw [allB_take _ _ _ _ hlt, hall, hin]; rfl⟩
        case measure => simp [intOf]; omega
    · go_wp2_with fail
      go_ret
      exact ⟨ret_bool (by rw [← hall, List.take_of_length_le (by omega)]), rfl⟩

theorem iIsRelation_any (n : Int) (a : Option Addr) (xs : List Int) (cap : Nat) (w : World) (_hn : -9223372036854775808 ≤ n ∧ n ≤ 9223372036854775807) (hx : Rd w a xs) :
    Calls Tryd.prog 72 #[.agg #[.int .i64 n, .slice a xs.length cap]] w fun e w' => e = .returned (.bool (relB n xs)) ∧ Below w.heap.size w w' := by
  have hx1 := hx.alloc (.cells #[.int .i64 n, .slice a xs.length cap] 28)
  have hlen := hx.len
  by_cases h0 : 0 ≤ n
  · by_cases h1 : n ≤ 10
    · cases h2 : ((xs.length : Int) == n)
      · have HR : Hid (relB n xs = false) := by
          have : ¬ (xs.length : Int) = n := by simpa using h2
          simp [Hid, relB, this]
        go_enter Tryd.func72, Tryd.ntmps72
        go_wp2_with fail
        go_ret
        exact ⟨ret_bool HR.out.symm, (by repeat (first | exact Below.refl _ _ | assumption | refine Below.alloc ?_ (by first | exact Nat.le_refl _ | (simp only [World.size_alloc, World.size_setCell, World.size_drew]; omega) | omega) _ | refine Below.setCell ?_ (by first | exact Nat.le_refl _ | (simp only [World.size_alloc, World.size_setCell, World.size_drew]; omega) | omega) _ | refine Below.drew ?_))⟩
      · have HR : Hid (relB n xs = allB xs 0 (2 ^ n.toNat - 1)) := by
          have : (xs.length : Int) = n := by simpa using h2
          simp [Hid, relB, inB, h0, h1, this]
        go_enter Tryd.func72, Tryd.ntmps72
        go_wp2_with fail
        refine (areSets_any _ _ _ _ _ hx1 h0 h1).mono ?_
        rintro e w' ⟨rfl, rfl⟩
        go_wp2_with fail
        go_ret
        exact ⟨ret_bool HR.out.symm, (by repeat (first | exact Below.refl _ _ | assumption | refine Below.alloc ?_ (by first | exact Nat.le_refl _ | (simp only [World.size_alloc, World.size_setCell, World.size_drew]; omega) | omega) _ | refine Below.setCell ?_ (by first | exact Nat.le_refl _ | (simp only [World.size_alloc, World.size_setCell, World.size_drew]; omega) | omega) _ | refine Below.drew ?_))⟩
    · have HR : Hid (relB n xs = false) := by simp [Hid, relB, inB]; omega
      go_enter Tryd.func72, Tryd.ntmps72
      go_wp2_with fail
      go_ret
      exact ⟨ret_bool HR.out.symm, (by repeat (first | exact Below.refl _ _ | assumption | refine Below.alloc ?_ (by first | exact Nat.le_refl _ | (simp only [World.size_alloc, World.size_setCell, World.size_drew]; omega) | omega) _ | refine Below.setCell ?_ (by first | exact Nat.le_refl _ | (simp only [World.size_alloc, World.size_setCell, World.size_drew]; omega) | omega) _ | refine Below.drew ?_))⟩
  · have HR : Hid (relB n xs = false) := by simp [Hid, relB, inB]; omega
    go_enter Tryd.func72, Tryd.ntmps72
    go_wp2_with fail
    go_ret
    exact ⟨ret_bool HR.out.symm, (by repeat (first | exact Below.refl _ _ | assumption | refine Below.alloc ?_ (by first | exact Nat.le_refl _ | (simp only [World.size_alloc, World.size_setCell, World.size_drew]; omega) | omega) _ | refine Below.setCell ?_ (by first | exact Nat.le_refl _ | (simp only [World.size_alloc, World.size_setCell, World.size_drew]; omega) | omega) _ | refine Below.drew ?_))⟩

theorem iIsOrder_any (n : Int) (a : Option Addr) (xs : List Int) (cap : Nat) (w : World) (hn : -9223372036854775808 ≤ n ∧ n ≤ 9223372036854775807) (hx : Rd w a xs) :
    Calls Tryd.prog 42 #[.agg #[.int .i64 n, .slice a xs.length cap]] w fun e w' => e = .returned (.bool (ordB n xs)) ∧ Below w.heap.size w w' := by
  have hx1 := hx.alloc (.cells #[.int .i64 n, .slice a xs.length cap] 28)
  have hlen := hx.len
  cases hr : relB n xs
  · have HR : Hid (ordB n xs = false) := by simp [Hid, ordB, hr]
    go_enter Tryd.func42, Tryd.ntmps42
    go_wp2_with fail
    refine (iIsRelation_any _ _ _ _ _ hn hx1).mono ?_
    rintro e w1 ⟨rfl, hb1⟩
    go_wp2_with fail
    go_ret
    exact ⟨ret_bool HR.out.symm, Below.trans (by repeat (first | exact Below.refl _ _ | assumption | refine Below.alloc ?_ (by first | exact Nat.le_refl _ | (simp only [World.size_alloc, World.size_setCell, World.size_drew]; omega) | omega) _ | refine Below.setCell ?_ (by first | exact Nat.le_refl _ | (simp only [World.size_alloc, World.size_setCell, World.size_drew]; omega) | omega) _ | refine Below.drew ?_)) (hb1.mono (by first | (simp only [World.size_alloc, World.size_setCell, World.size_drew]; omega) | omega))⟩
  · have hp := relB_p hr
    go_enter Tryd.func42, Tryd.ntmps42
    go_wp2_with fail
    refine (iIsRelation_any _ _ _ _ _ hn hx1).mono ?_
    rintro e w1 ⟨rfl, hb1⟩
    have B1 := (Box2.new w _ _ _).below hb1
    have ⟨z1, c1, d1⟩ := B1
    have bw1 : Below w.heap.size w w1 := Below.trans (by repeat (first | exact Below.refl _ _ | assumption | refine Below.alloc ?_ (by first | exact Nat.le_refl _ | (simp only [World.size_alloc, World.size_setCell, World.size_drew]; omega) | omega) _ | refine Below.setCell ?_ (by first | exact Nat.le_refl _ | (simp only [World.size_alloc, World.size_setCell, World.size_drew]; omega) | omega) _ | refine Below.drew ?_)) (hb1.mono (by first | (simp only [World.size_alloc, World.size_setCell, World.size_drew]; omega) | omega))
    have HR := Lib.hid hr
    clear hb1
    go_wp2_with fail
    clear hr
    go_loopw [11] (fun i wr => ∃ k : Nat, k ≤ xs.length ∧ i = .int .i64 k ∧ (∀ j, j < k → okAtB xs j = true) ∧ Below w1.heap.size w1 wr) (fun i _ => xs.length - (intOf i).toNat)
    case atStart => exact ⟨0, Nat.zero_le _, rfl, fun j hj => by omega, Below.refl _ _⟩
    case round =>
      obtain ⟨k, hk, rfl, hall, hb⟩ := hrel
      have ⟨zr, cr, dr⟩ := B1.below hb
      have bwr := bw1.trans (hb.mono bw1.size)
      have HA := Lib.hid hall
      clear hall c1 d1
      by_cases hlt : k < xs.length
      · obtain ⟨b, off, rfl, hbl, hc⟩ := (hx.below bwr).cell k hlt
        have hpk := hp.pos k hlt
        have hsk := hp.small k hlt
        have hsk' : nth xs k ≤ 9223372036854775807 := by omega
        cases hin : hasB (nth xs k) k
        · have hab := aboveTo_lt hp (nth xs k) xs.length (Nat.le_refl _)
          have hsub := sub_i (a := (aboveTo xs (nth xs k) xs.length : Nat)) (b := nth xs k) (by omega) (by omega) hpk (by omega)
          have hok := okAtB_above hin
          rw [Int.toNat_natCast] at hsub
          cases hok2 : okAtB xs k
          · rw [hok2] at hok
            have hne : (bits BinOp.andNot IntKind.i64 ((aboveTo xs (nth xs k) xs.length : Nat) : Int) (nth xs k) != 0) = true := by
              rw [hsub]
              simpa using hok.symm
            have HN := Lib.hid (ordB_no (n := n) hlt hok2)
            clear hok2 hok hsub hab
            go_wp2_with fail
            refine (hasElement_any _ _ _ hpk hsk' (by omega)).mono ?_
            rintro e w' ⟨rfl, rfl⟩
            go_wp2_with fail
            refine (aboveAny_any _ _ _ _ _ _ (hx.below bwr) hp hpk hsk').mono ?_
            rintro e w2 ⟨rfl, hb2⟩
            go_wp2_with fail
            go_ret
            exact ⟨ret_bool HN.out.symm, bwr.trans (hb2.mono bwr.size)⟩
          · rw [hok2] at hok
            have hne : (bits BinOp.andNot IntKind.i64 ((aboveTo xs (nth xs k) xs.length : Nat) : Int) (nth xs k) != 0) = false := by
              rw [hsub]
              simpa using hok.symm
            have HN := Lib.hid hok2
            clear hok2 hok hsub hab
            go_wp2_with fail
            refine (hasElement_any _ _ _ hpk hsk' (by omega)).mono ?_
            rintro e w' ⟨rfl, rfl⟩
            go_wp2_with fail
            refine (aboveAny_any _ _ _ _ _ _ (hx.below bwr) hp hpk hsk').mono ?_
            rintro e w2 ⟨rfl, hb2⟩
            go_wp2_with fail
            go_roundw
            case rel =>
              refine ⟨k + 1, by omega, by go_num, fun j hj => ?_, hb.trans (hb2.mono hb.size)⟩
              by_cases e : j = k
              · rw [e]; exact HN.out
              · exact HA.out j (by omega)
            case measure => simp [intOf]; omega
        · have HN := Lib.hid (ordB_no (n := n) hlt (okAtB_has hin))
          go_wp2_with fail
          refine (hasElement_any _ _ _ hpk hsk' (by omega)).mono ?_
          rintro e w' ⟨rfl, rfl⟩
          go_wp2_with fail
          go_ret
          exact ⟨ret_bool HN.out.symm, bwr⟩
      · obtain rfl : k = xs.length := by omega
        go_wp2_with fail
        go_ret
        exact ⟨ret_bool (ordB_iff.2 ⟨HR.out, HA.out⟩).symm, bwr⟩

theorem belowSet_any (n : Int) (a : Option Addr) (xs : List Int) (cap : Nat) (i : Int) (w : World) (hx : Rd w a xs) (hr : RelP n xs) (hi : 0 ≤ i) :
    Calls Tryd.prog 75 #[.agg #[.int .i64 n, .slice a xs.length cap], .int .i64 i] w fun e w' => e = .returned (.int .i64 (belowTo xs i xs.length)) ∧ Below w.heap.size w w' := by
  have hx1 := hx.alloc (.cells #[.int .i64 n, .slice a xs.length cap] 28)
  have hn : xs.length ≤ 10 := by have := hr.len; have := hr.n1; omega
  go_enter Tryd.func75, Tryd.ntmps75
  go_wp2_with fail
  go_loop [5, 11] (fun s i' => ∃ k : Nat, k ≤ xs.length ∧ i' = .int .i64 k ∧ s = .int .i64 (belowTo xs i k)) (fun _ i => xs.length - (intOf i).toNat)
  case atStart => exact ⟨0, Nat.zero_le _, rfl, rfl⟩
  case round =>
    obtain ⟨k, hk, rfl, rfl⟩ := hrel
    by_cases hlt : k < xs.length
    · obtain ⟨b, off, rfl, hbl, hc⟩ := hx1.cell k hlt
      obtain ⟨b', off', e', hbl', hc'⟩ := hx.cell k hlt
      simp only [Option.some.injEq, Addr.mk.injEq, and_true] at e'
      obtain ⟨rfl, rfl⟩ := e'
      have hpk := hr.pos k hlt
      have hsk : nth xs k ≤ 9223372036854775807 := by have := hr.small k hlt; omega
      have hbs := belowTo_small xs i (k := k) (by omega)
      have hor := Lib.hid (or_bit (b := belowTo xs i k) (k := k) (by omega) (by omega))
      clear hbs
      cases hin : hasB (nth xs k) i
      · go_wp2_with (go_at_call 43; refine (hasElement_any _ _ _ hpk hsk hi).mono ?_; rintro e w' ⟨rfl, rfl⟩)
        go_round
        case rel => exact ⟨k + 1, by omega, by go_num, by simp [belowTo, hin]⟩
        case measure => simp [intOf]; omega
      · go_wp2_with (go_at_call 43; refine (hasElement_any _ _ _ hpk hsk hi).mono ?_; rintro e w' ⟨rfl, rfl⟩)
        go_round
        case rel => exact ⟨k + 1, by omega, by go_num, val_int (by rw [hor.out]; simp [belowTo, hin])⟩
        case measure => simp [intOf]; omega
    · obtain rfl : k = xs.length := by omega
      go_wp2_with fail
      go_ret
      exact ⟨rfl, (by repeat (first | exact Below.refl _ _ | assumption | refine Below.alloc ?_ (by first | exact Nat.le_refl _ | (simp only [World.size_alloc, World.size_setCell, World.size_drew]; omega) | omega) _ | refine Below.setCell ?_ (by first | exact Nat.le_refl _ | (simp only [World.size_alloc, World.size_setCell, World.size_drew]; omega) | omega) _ | refine Below.drew ?_))⟩

theorem indifferentSet_any (n : Int) (a : Option Addr) (xs : List Int) (cap : Nat) (k : Nat) (w : World) (hx : Rd w a xs) (hr : RelP n xs) (hk : k < xs.length) :
    Calls Tryd.prog 44 #[.agg #[.int .i64 n, .slice a xs.length cap], .int .i64 k] w fun e w' => e = .returned (.int .i64 (freeN xs k)) ∧ Below w.heap.size w w' := by
  have hx1 := hx.alloc (.cells #[.int .i64 n, .slice a xs.length cap] 28)
  have hn := hr.n1
  have h0 := hr.n0
  have hk0 : (0 : Int) ≤ (k : Int) := by omega
  have hk1 : (k : Int) < (xs.length : Int) := by omega
  have HF := Lib.hid (free_val2 hr hk)
  obtain ⟨b, off, rfl, hbl, hc⟩ := hx1.cell k hk
  obtain ⟨b', off', e', hbl', hc'⟩ := hx.cell k hk
  simp only [Option.some.injEq, Addr.mk.injEq, and_true] at e'
  obtain ⟨rfl, rfl⟩ := e'
  go_enter Tryd.func44, Tryd.ntmps44
  go_wp2_with fail
  go_region_held3 (fun w' => w'.cell? ⟨w.heap.size, 0, none⟩ = some (.int .i64 n) ∧ w'.cell? ⟨w.heap.size, 1, none⟩ = some (.slice (some ⟨b, off, none⟩) xs.length cap) ∧ w'.cell? ⟨b, off + k, none⟩ = some (.int .i64 (nth xs k)))
    (first | exact ⟨P1.2.1, P1.2.2, q1⟩ | go_keep)
    (first | (go_at_call 74; refine (fullSet_any _ _ h0 hn).mono ?_; rintro e w' ⟨rfl, rfl⟩) | (go_at_call 75; refine (belowSet_any _ _ _ _ _ _ (hx1.below (Joins.below_draws _ _ _)) hr (by omega)).mono ?_; rintro e w1 ⟨rfl, hb1⟩; have ht1 : Below (w.alloc (.cells #[.int .i64 n, .slice (some ⟨b, off, none⟩) xs.length cap] 28)).heap.size (w.alloc (.cells #[.int .i64 n, .slice (some ⟨b, off, none⟩) xs.length cap] 28)) w1 := (Joins.below_draws _ _ _).trans hb1; have P1 := (Box2.new w _ _ _).below ht1; have q1 := (ht1.cell (p := ⟨b, off + k, none⟩) hbl).trans hc))
  go_wp2_with fail
  go_ret
  exact ⟨ret_int (by rw [show min k 64 = k from by have := hr.len; omega, ← HF.out]; simp only [i64_wrap]), Below.trans (by repeat (first | exact Below.refl _ _ | assumption | refine Below.alloc ?_ (by first | exact Nat.le_refl _ | (simp only [World.size_alloc, World.size_setCell, World.size_drew]; omega) | omega) _ | refine Below.setCell ?_ (by first | exact Nat.le_refl _ | (simp only [World.size_alloc, World.size_setCell, World.size_drew]; omega) | omega) _ | refine Below.drew ?_)) (ht1.mono (by first | (simp only [World.size_alloc, World.size_setCell, World.size_drew]; omega) | omega))⟩

set_option maxRecDepth 100000 in
theorem iThree_any (n : Int) (a : Option Addr) (xs : List Int) (cap : Nat) (w : World) (hn : -9223372036854775808 ≤ n ∧ n ≤ 9223372036854775807) (hx : Rd w a xs) (hT : TabOk w) :
    Calls Tryd.prog 15 #[.agg #[.int .i64 n, .slice a xs.length cap]] w fun e w' => ∃ a' cap', e = .returned (.tuple #[.slice a' (thrL n xs).length cap', .bool (thrO n xs)]) ∧ OwnI w' w.heap.size (.slice a' (thrL n xs).length cap') (thrL n xs) ∧ Below w.heap.size w w' := by
  have hx1 := hx.alloc (.cells #[.int .i64 n, .slice a xs.length cap] 28)
  cases hr : ordB n xs
  · have H1 : Hid (thrL n xs = []) := by simp [Hid, thrL, hr]
    have H2 : Hid (thrO n xs = false) := by simp [Hid, thrO, hr]
    go_enter Tryd.func15, Tryd.ntmps15
    go_wp2_with fail
    go_step3
    go_wp2_with fail
    refine (iIsOrder_any _ _ _ _ _ hn hx1).mono ?_
    rw [hr]
    rintro e w1 ⟨rfl, hb1⟩
    have bw1 : Below w.heap.size w w1 := Below.trans (by repeat (first | exact Below.refl _ _ | assumption | refine Below.alloc ?_ (by first | exact Nat.le_refl _ | (simp only [World.size_alloc, World.size_setCell, World.size_drew]; omega) | omega) _ | refine Below.setCell ?_ (by first | exact Nat.le_refl _ | (simp only [World.size_alloc, World.size_setCell, World.size_drew]; omega) | omega) _ | refine Below.drew ?_)) (hb1.mono (by first | (simp only [World.size_alloc, World.size_setCell, World.size_drew]; omega) | omega))
    go_wp2_with fail
    rw [Exit.noGoto_ret]
    refine bodyPost_ret (v := .tuple #[.slice none 0 0, .bool false]) (by simp [results, Tryd.results15, go_sem]) rfl ?_
    exact ⟨none, 0, by rw [H1.out, H2.out]; rfl, by rw [H1.out]; exact OwnI.nil _ _, bw1⟩
  · have hp := ord_rel hr
    have h10 : xs.length ≤ 10 := by have := hp.len; have := hp.n1; omega
    have HR := Lib.hid hr
    obtain rfl : n = (xs.length : Int) := hp.len.symm
    clear hr
    go_enter Tryd.func15, Tryd.ntmps15
    go_wp2_with fail
    go_step3
    go_wp2_with fail
    refine (iIsOrder_any _ _ _ _ _ hn hx1).mono ?_
    rw [HR.out]
    rintro e w1 ⟨rfl, hb1⟩
    have A1 : Box2 w1 w.heap.size (.int .i64 (xs.length : Int)) (.slice a xs.length cap) := (Box2.new w _ _ _).below hb1
    have bw1 : Below w.heap.size w w1 := Below.trans (by repeat (first | exact Below.refl _ _ | assumption | refine Below.alloc ?_ (by first | exact Nat.le_refl _ | (simp only [World.size_alloc, World.size_setCell, World.size_drew]; omega) | omega) _ | refine Below.setCell ?_ (by first | exact Nat.le_refl _ | (simp only [World.size_alloc, World.size_setCell, World.size_drew]; omega) | omega) _ | refine Below.drew ?_)) (hb1.mono (by first | (simp only [World.size_alloc, World.size_setCell, World.size_drew]; omega) | omega))
    have ⟨zA, cA, dA⟩ := A1
    clear hb1
    go_wp2_with fail
    go_step3
    go_wp2_with fail
    clear cA dA
    go_loopw [4, 15] (fun s4 i' wr => ∃ k : Nat, k ≤ xs.length ∧ i' = .int .i64 k ∧ s4 = .slice none 0 0 ∧ NoThr xs k 0 0 ∧ Below w.heap.size w wr ∧ Box2 wr w.heap.size (.int .i64 (xs.length : Int)) (.slice a xs.length cap)) (fun _ i' _ => xs.length - (intOf i').toNat)
    case atStart => exact ⟨0, Nat.zero_le _, rfl, rfl, ⟨fun c hc => by omega, fun b hb => by omega, fun b hb => by omega⟩, bw1, A1⟩
    case round =>
      clear A1 bw1
      obtain ⟨k, hk, rfl, rfl, hall, hb, hB⟩ := hrel
      obtain ⟨wo, rfl⟩ : ∃ wo : World, wo = wr := ⟨_, rfl⟩
      have ⟨zr, cr, dr⟩ := hB
      have HA := Lib.hid hall
      clear hall
      by_cases hlt : k < xs.length
      · have pk := hp.pos k hlt
        have sk : nth xs k ≤ 9223372036854775807 := by have := hp.small k hlt; omega
        have k0 : (0 : Int) ≤ (k : Int) := by omega
        have k1 : (k : Int) < (xs.length : Int) := by omega
        go_wp2_with fail
        clear cr dr
        go_loopw [4, 20] (fun s4 i' wr => ∃ l : Nat, l ≤ xs.length ∧ i' = .int .i64 l ∧ s4 = .slice none 0 0 ∧ NoThr xs k l 0 ∧ Below w.heap.size w wr ∧ Box2 wr w.heap.size (.int .i64 (xs.length : Int)) (.slice a xs.length cap)) (fun _ i' _ => xs.length - (intOf i').toNat)
        case atStart => exact ⟨0, Nat.zero_le _, rfl, rfl, HA.out, hb, hB⟩
        case round =>
          clear hb hB
          obtain ⟨l, hl, rfl, rfl, hall, hb, hB⟩ := hrel
          obtain ⟨wp, rfl⟩ : ∃ wp : World, wp = wr := ⟨_, rfl⟩
          have ⟨zr2, cr2, dr2⟩ := hB
          have HL := Lib.hid hall
          clear hall
          by_cases hlt2 : l < xs.length
          · obtain ⟨b, off, rfl, hbl, hck⟩ := (hx.below hb).cell k hlt
            have pl := hp.pos l hlt2
            have sl : nth xs l ≤ 9223372036854775807 := by have := hp.small l hlt2; omega
            have l0 : (0 : Int) ≤ (l : Int) := by omega
            have l1 : (l : Int) < (xs.length : Int) := by omega
            cases h1 : hasB (nth xs k) l
            · have hfin := Lib.hid (HL.out.skip h1)
              have H1 := Lib.hid h1
              clear h1
              go_wp2_with fail
              refine (hasElement_any _ _ _ pk sk l0).mono ?_
              rw [H1.out]
              rintro e w' ⟨rfl, rfl⟩
              go_wp2_with fail
              go_roundw
              case rel => exact ⟨l + 1, by omega, by go_num, rfl, hfin.out, hb, hB⟩
              case measure => simp [intOf]; omega
            · have H1 := Lib.hid h1
              have HAP : Hid (bits .and .i64 ((freeN xs k : Nat) : Int) ((freeN xs l : Nat) : Int) = ((freeN xs k &&& freeN xs l : Nat) : Int)) := by
                have q1 := freeN_lt h10 k
                have q2 := freeN_lt h10 l
                exact and_nat _ _ (by omega) (by omega)
              clear h1
              go_wp2_with fail
              refine (hasElement_any _ _ _ pk sk l0).mono ?_
              rw [H1.out]
              rintro e w' ⟨rfl, rfl⟩
              go_wp2_with fail
              go_region_held3 (fun w' => w'.cell? ⟨w.heap.size, 0, none⟩ = some (.int .i64 (xs.length : Int)) ∧ w'.cell? ⟨w.heap.size, 1, none⟩ = some (.slice (some ⟨b, off, none⟩) xs.length cap))
                (first | exact ⟨A3.2.1, A3.2.2⟩ | exact ⟨A2.2.1, A2.2.2⟩ | go_keep)
                (first | (have _g := ht2; go_at_call 44; refine (indifferentSet_any _ _ _ _ l _ (hx.below bw2) hp hlt2).mono ?_; rintro e w3 ⟨rfl, hb3⟩; have A3 := A2.below hb3) | (go_at_call 44; refine (indifferentSet_any _ _ _ _ k _ (hx.below (hb.trans (Joins.below_draws _ _ _))) hp hlt).mono ?_; rintro e w2 ⟨rfl, hb2⟩; have ht2 : Below wp.heap.size wp w2 := (Joins.below_draws _ _ _).trans hb2; have A2 := hB.below ht2; have bw2 := hb.trans (ht2.mono hb.size)))
              rw [HAP.out]
              have bw3 := bw2.trans (hb3.mono bw2.size)
              clear ht2 hb2 hb3 A2 bw2 cr2 dr2 hck
              have ⟨zr3, cr3, dr3⟩ := A3
              go_wp2_with fail
              clear cr3 dr3
              go_loopw [4, 40] (fun s4 i' wr => ∃ m : Nat, m ≤ xs.length ∧ i' = .int .i64 m ∧ s4 = .slice none 0 0 ∧ NoThr xs k l m ∧ Below w.heap.size w wr ∧ Box2 wr w.heap.size (.int .i64 (xs.length : Int)) (.slice (some ⟨b, off, none⟩) xs.length cap)) (fun _ i' _ => xs.length - (intOf i').toNat)
              case atStart => exact ⟨0, Nat.zero_le _, rfl, rfl, HL.out, bw3, A3⟩
              case round =>
                clear A3 bw3 hb hB
                obtain ⟨m, hm, rfl, rfl, hall, hb, hB⟩ := hrel
                have ⟨zr4, cr4, dr4⟩ := hB
                have HM := Lib.hid hall
                clear hall
                by_cases hlt3 : m < xs.length
                · have m0 : (0 : Int) ≤ (m : Int) := by omega
                  have m1 : (m : Int) < (xs.length : Int) := by omega
                  obtain ⟨S, hS⟩ : ∃ S, S = thrS xs k l m := ⟨_, rfl⟩
                  have hSl : S < 1024 := by rw [hS]; exact thrS_lt h10 k l m
                  have HSS : Hid (bits .and .i64 ((freeN xs k &&& freeN xs l : Nat) : Int) ((freeN xs m : Nat) : Int) = (S : Int)) := by
                    have q1 := freeN_lt h10 k
                    have q2 := freeN_lt h10 m
                    rw [Hid, hS]
                    exact and_nat _ _ (Nat.lt_of_le_of_lt Nat.and_le_left (by omega)) (by omega)
                  have HS := Lib.hid hS
                  clear hS
                  go_wp2_with fail
                  refine (indifferentSet_any _ _ _ _ m _ (hx.below hb) hp hlt3).mono ?_
                  rintro e w4 ⟨rfl, hb4⟩
                  have bw4 := hb.trans (hb4.mono hb.size)
                  have A4 := hB.below hb4
                  have ⟨zr5, cr5, dr5⟩ := A4
                  obtain ⟨b', off', e', hbl', hcl⟩ := (hx.below bw4).cell l hlt2
                  simp only [Option.some.injEq, Addr.mk.injEq, and_true] at e'
                  obtain ⟨rfl, rfl⟩ := e'
                  have hT4 : TabOk w4 := hT.below bw4
                  clear hb4 hb hB cr4 dr4
                  cases h2 : hasB (nth xs l) m
                  · have hfin := Lib.hid (HM.out.c (fun h => by rw [h2] at h; cases h))
                    have H2 := Lib.hid h2
                    clear h2
                    go_wp2_with fail
                    rw [HSS.out]
                    go_wp2_with fail
                    refine (hasElement_any _ _ _ pl sl m0).mono ?_
                    rw [H2.out]
                    rintro e w' ⟨rfl, rfl⟩
                    go_wp2_with fail
                    go_roundw
                    case rel => exact ⟨m + 1, by omega, by go_num, rfl, hfin.out, bw4, A4⟩
                    case measure => simp [intOf]; omega
                  · by_cases hz : S = 0
                    · have hfin := Lib.hid (HM.out.c (fun _ => thrC_zero (by rw [← HS.out]; exact hz)))
                      have H2 := Lib.hid h2
                      have hzz : ((S : Int) != 0) = false := by simp [hz]
                      clear h2 hz
                      go_wp2_with fail
                      rw [HSS.out]
                      go_wp2_with fail
                      refine (hasElement_any _ _ _ pl sl m0).mono ?_
                      rw [H2.out]
                      rintro e w' ⟨rfl, rfl⟩
                      go_wp2_with fail
                      go_roundw
                      case rel => exact ⟨m + 1, by omega, by go_num, rfl, hfin.out, bw4, A4⟩
                      case measure => simp [intOf]; omega
                    · have ht := HM.out.yes hp hlt hlt2 hlt3 H1.out h2 (by rw [thrC_low h10 (by rw [← HS.out]; exact hz), ← HS.out])
                      have H1' : Hid (thrL (xs.length : Int) xs = [(k : Int), (l : Int), (m : Int), ((lowN S : Nat) : Int)]) := by simp only [Hid, thrL, HR.out, ht]; rfl
                      have H2' : Hid (thrO (xs.length : Int) xs = true) := by simp only [Hid, thrO, HR.out, ht]; rfl
                      have hzz : ((S : Int) != 0) = true := by simp; omega
                      have hpos : 0 < S := by omega
                      have H2 := Lib.hid h2
                      clear h2 hz ht
                      go_wp2_with fail
                      rw [HSS.out]
                      go_wp2_with fail
                      refine (hasElement_any _ _ _ pl sl m0).mono ?_
                      rw [H2.out]
                      rintro e w' ⟨rfl, rfl⟩
                      go_wp2_with fail
                      refine (firstElement_any S _ hpos hSl hT4).mono ?_
                      rintro e w' ⟨rfl, rfl⟩
                      go_wp2_with fail
                      rw [Exit.noGoto_ret]
                      refine bodyPost_ret (v := .tuple #[.slice (some ⟨w4.heap.size, 0, none⟩) 4 4, .bool true]) (by simp [results, Tryd.results15, go_sem]) rfl ?_
                      refine ⟨some ⟨w4.heap.size, 0, none⟩, 4, by rw [H1'.out, H2'.out]; rfl, ?_, bw4.alloc bw4.size _⟩
                      rw [H1'.out]
                      exact (OwnI.new w4 [(k : Int), (l : Int), (m : Int), ((lowN S : Nat) : Int)] (by simp)).mono bw4.size
                · obtain rfl : m = xs.length := by omega
                  have hfin := Lib.hid (HM.out.b hp hlt2)
                  go_wp2_with fail
                  go_roundw
                  case rel => exact ⟨l + 1, by omega, by go_num, rfl, hfin.out, hb, hB⟩
                  case measure => simp [intOf]; omega
          · obtain rfl : l = xs.length := by omega
            have hfin := Lib.hid (HL.out.a hp hlt)
            go_wp2_with fail
            go_roundw
            case rel => exact ⟨k + 1, by omega, by go_num, rfl, hfin.out, hb, hB⟩
            case measure => simp [intOf]; omega
      · obtain rfl : k = xs.length := by omega
        have ht := HA.out.no
        have H1 : Hid (thrL (xs.length : Int) xs = []) := by simp only [Hid, thrL, HR.out, ht]; rfl
        have H2 : Hid (thrO (xs.length : Int) xs = false) := by simp only [Hid, thrO, HR.out, ht]; rfl
        clear ht
        go_wp2_with fail
        rw [Exit.noGoto_ret]
        refine bodyPost_ret (v := .tuple #[.slice none 0 0, .bool false]) (by simp [results, Tryd.results15, go_sem]) rfl ?_
        exact ⟨none, 0, by rw [H1.out, H2.out]; rfl, by rw [H1.out]; exact OwnI.nil _ _, hb⟩

theorem hasElement_is {s i : Int} {b : Bool} (h0 : 0 ≤ s) (h1 : s ≤ 9223372036854775807) (hi : 0 ≤ i) (h : hasB s i = b) (w : World) (m : Nat) :
    Calls Tryd.prog 43 #[.int .i64 s, .int .i64 i] (w.drewN m) fun e w' => e = .returned (.bool b) ∧ ∃ k, w' = w.drewN k :=
  Calls.quiet_of_same ((hasElement_any s i (w.drewN m) h0 h1 hi).mono (fun e w' hh => ⟨by rw [← h]; exact hh.1, hh.2.symm⟩))

theorem ret_iib {a b c d : Int} {p q : Bool} (h : a = b) (h2 : c = d) (h3 : p = q) : Ending.returned (.tuple #[.int .i64 a, .int .i64 c, .bool p]) = .returned (.tuple #[.int .i64 b, .int .i64 d, .bool q]) := by rw [h, h2, h3]

end Go.Proofs.YtnbgpelnihchoaaDoor.stairOf
