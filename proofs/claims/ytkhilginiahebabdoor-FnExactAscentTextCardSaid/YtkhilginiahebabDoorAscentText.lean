/- PROVED: the law FnExactAscentText returns true for every input, and each of its arguments reads afterwards as before. No conditions. -/
import Derived.Test.YtkhilginiahebabDoorRows
import Derived.WalkKit
import Derived.WalkSpells
import Derived.WalkLawsBesides
import Derived.Deep.QuietTactic
import Derived.BigQuiet
import Derived.ProofKit
import Derived.OpenShut
import Derived.ShutString
import Derived.ChangeOld
import Derived.Below
import Derived.Lib.SmallJoins
import Derived.Lib.Hide
import Derived.Maps.AppendAt
import Derived.Deep.AppendLies
import Derived.Lib.ItoaNum
import Derived.Laws.IdiomStrings
import Derived.Laws.Concat
import Derived.Deep.RegionLaw
import Derived.Lib.Join
import Derived.Shelf.Strings.Builder1
import Derived.Shelf.Strings.Builder2
import Derived.Shelf.Strings.OnBuilder
import Derived.Shelf.Strings.BuilderF
import Derived.Shelf.Strings.BuilderK
import Derived.Shelf.Strings.Builder2Cap
import Derived.Shelf.Strconv.Atoi
import Derived.Shelf.Strconv.Itoa0
import Derived.Shelf.Strconv.Itoa1
import Derived.Shelf.LaysM
import Derived.Shelf.Strconv.Itoa2
import Derived.Shelf.Strconv.Itoa3
import Derived.Shelf.Strconv.AtoiErrFast
import Derived.Shelf.Strconv.ParseIntEmpty
import Derived.Shelf.Strconv.AtoiFail
import Derived.Shelf.Strconv.Clone
import Derived.Shelf.Strconv.SyntaxError
import Derived.Shelf.Strconv.Lower
import Derived.Shelf.Strconv.ParseUint10
import Derived.Shelf.Strconv.ParseUint10Empty
import Derived.Shelf.Strconv.RangeError
import Derived.Shelf.Strconv.ParseUintEmpty
import Derived.Shelf.Strconv.ParseUint10b64
import Derived.Shelf.Strconv.ParseUint10b32
import Derived.Shelf.Strconv.ParseUint10b16
import Derived.Shelf.Strconv.ParseUint10b8
import Derived.Shelf.Strings.Search1
import Derived.Shelf.Strings.Search2
import Derived.Shelf.Strings.Cut
import Derived.Shelf.Strings.Shaped
import Derived.Deep.RegionHeld3
import Derived.LaidMore
import Derived.Stop.Joined
import Derived.Test.YtkhilginiahebabDoorTie
import Derived.Test.YtkhilginiahebabDoorCards
import Derived.SevenTiedAt
namespace Go.Proofs.YtkhilginiahebabDoor.ascentText
open Go Go.RowKit
set_option linter.unusedVariables false
set_option linter.unusedSimpArgs false
set_option maxHeartbeats 400000
open Go.Shelf


/-- a number of a list; a plain function, which the walk leaves alone -/
def nth (xs : List Int) (k : Nat) : Int := xs.getD k 0
theorem nth_get (xs : List Int) (k : Nat) (h : k < xs.length) : nth xs k = xs[k] := by simp [nth, h]
/-- the slice at an address reads as a list -/
structure Rd (w : World) (a : Option Addr) (xs : List Int) : Prop where
  len : xs.length ≤ 9223372036854775807
  cell : ∀ k, k < xs.length → ∃ b off, a = some ⟨b, off, none⟩ ∧ b < w.heap.size ∧ w.cell? ⟨b, off + k, none⟩ = some (.int .i64 (nth xs k))
theorem Rd.below {w w' : World} {a : Option Addr} {xs : List Int} (h : Rd w a xs) (hb : Below w.heap.size w w') : Rd w' a xs :=
  ⟨h.len, fun k hk => by
    obtain ⟨b, off, e, hl, hc⟩ := h.cell k hk
    exact ⟨b, off, e, Nat.lt_of_lt_of_le hl hb.size, (hb.cell (World.block_lt_of_cell? _ _ hc)).trans hc⟩⟩
theorem Rd.mid {w w1 w2 : World} {a : Option Addr} {xs : List Int} {B : Nat} (h : Rd w a xs) (hb : Below B w1 w2) (hB : w.heap.size ≤ B) (h1 : Rd w1 a xs) : Rd w2 a xs :=
  ⟨h.len, fun k hk => by
    obtain ⟨b, off, e, hl, hc⟩ := h.cell k hk
    obtain ⟨b', off', e', hl', hc'⟩ := h1.cell k hk
    rw [e] at e'
    simp only [Option.some.injEq, Addr.mk.injEq, and_true] at e'
    obtain ⟨rfl, rfl⟩ := e'
    exact ⟨b, off, e, Nat.lt_of_lt_of_le hl' hb.size, (hb.cell (by show b < B; omega)).trans hc'⟩⟩
theorem Rd.alloc {w : World} {a : Option Addr} {xs : List Int} (h : Rd w a xs) (o : Obj) : Rd (w.alloc o) a xs :=
  h.below ((Below.refl _ _).alloc (Nat.le_refl _) o)
theorem Rd.same {w w' : World} {a : Option Addr} {xs : List Int} (h : Rd w a xs) (hs : w.heap.size ≤ w'.heap.size)
    (hb : ∀ b off, a = some ⟨b, off, none⟩ → w'.heap[b]? = w.heap[b]?) : Rd w' a xs :=
  ⟨h.len, fun k hk => by
    obtain ⟨b, off, e, hl, hc⟩ := h.cell k hk
    exact ⟨b, off, e, Nat.lt_of_lt_of_le hl hs, (World.cell?_of_block (w := w) (a := ⟨b, off + k, none⟩) (hb b off e)).trans hc⟩⟩
/-- a slice value that owns the row of these integers, in a block from B on -/
def OwnI (w : World) (B : Nat) (v : Value) (xs : List Int) : Prop := w.ownsRow B 3 1 v xs.length (xs.map (Value.int .i64))
theorem OwnI.form {w : World} {B : Nat} {v : Value} {xs : List Int} (h : OwnI w B v xs) : ∃ a cap, v = .slice a xs.length cap := by
  rcases h.2 with ⟨rfl, h0⟩ | ⟨g, cap, cur, rfl, _⟩
  · exact ⟨none, 0, by rw [h0]⟩
  · exact ⟨_, _, rfl⟩
theorem OwnI.rd {w : World} {B n cap : Nat} {a : Option Addr} {xs : List Int} (h : OwnI w B (.slice a n cap) xs) : Rd w a xs := by
  rcases h.2 with ⟨e, h0⟩ | ⟨g, cap', cur, e, hb, hg, hn, hm, hs, ht⟩
  · exact ⟨by omega, fun k hk => by omega⟩
  · simp only [Value.slice.injEq] at e
    obtain ⟨rfl, rfl, rfl⟩ := e
    refine ⟨by unfold maxLen at hm; omega, fun k hk => ⟨g, 0, rfl, (Array.getElem?_eq_some_iff.1 hg).1, ?_⟩⟩
    have := World.ownsRow.cellAt h k (by omega)
    rw [Nat.zero_add, this]
    simp [nth, hk]
theorem OwnI.blk {w : World} {B n cap : Nat} {a : Option Addr} {xs : List Int} (h : OwnI w B (.slice a n cap) xs) : ∀ b off s, a = some ⟨b, off, s⟩ → B ≤ b ∧ b < w.heap.size := by
  intro b off s e
  subst e
  exact World.ownsRow.lt h b rfl
theorem OwnI.kept {w w' : World} {B : Nat} {v : Value} {xs : List Int} {row : Option Nat} (h : OwnI w B v xs) (hg : w.grownBy w' row) (hne : v.ownBlock = none ∨ v.ownBlock ≠ row) : OwnI w' B v xs := World.ownsRow.kept h hg hne
theorem OwnI.mono {w : World} {B B' : Nat} {v : Value} {xs : List Int} (h : OwnI w B v xs) (hB : B' ≤ B) : OwnI w B' v xs := by
  refine ⟨h.1, ?_⟩
  rcases h.2 with hn | ⟨g, cap, cur, e, hb, rest⟩
  · exact .inl hn
  · exact .inr ⟨g, cap, cur, e, by omega, rest⟩
theorem OwnI.below {w w' : World} {B B' : Nat} {v : Value} {xs : List Int} (h : OwnI w B v xs) (hb : Below B' w w') (hB : w.heap.size ≤ B') : OwnI w' B v xs := by
  refine ⟨h.1, ?_⟩
  rcases h.2 with hn | ⟨g, cap, cur, e, hb', hg, rest⟩
  · exact .inl hn
  · refine .inr ⟨g, cap, cur, e, hb', ?_, rest⟩
    rw [hb.block g (by have := (Array.getElem?_eq_some_iff.1 hg).1; omega)]
    exact hg
theorem ret_bool {a b : Bool} (h : a = b) : Ending.returned (.bool a) = .returned (.bool b) := by rw [h]
theorem ret_int {a b : Int} (h : a = b) : Ending.returned (.int .i64 a) = .returned (.int .i64 b) := by rw [h]
theorem val_int {a b : Int} (h : a = b) : Value.int .i64 a = .int .i64 b := by rw [h]
theorem grown_below {w w' : World} {g : Nat} (h : w.grownBy w' (some g)) (B : Nat) (hB : B ≤ g) (hs : B ≤ w.heap.size) : Below B w w' :=
  ⟨h.os, h.tape, h.output, h.size, fun k hk => h.block k (by omega) (by intro e; simp only [Option.some.injEq] at e; omega)⟩
theorem below_grown {w w' : World} {B : Nat} (h : Below B w w') (hB : w.heap.size ≤ B) (row : Option Nat) : w.grownBy w' row :=
  ⟨h.os, h.tape, h.output, h.size, fun k hk _ => h.block k (by omega)⟩
theorem bcell {W w1 : World} (hb : Below W.heap.size W w1) : (∀ b o, b < W.heap.size → w1.cell? ⟨b, o, none⟩ = W.cell? ⟨b, o, none⟩) ∧ (∀ b o, b < W.heap.size → w1.frozen? ⟨b, o, none⟩ = W.frozen? ⟨b, o, none⟩) :=
  ⟨fun b o h => hb.cell (p := ⟨b, o, none⟩) h, fun b o h => hb.frozen (p := ⟨b, o, none⟩) h⟩
theorem infoInt : (Tryd.prog.info? 3).map (fun i => (i.zero, i.size, i.bytes)) = some (some (.int .i64 0), 1, 8) := by kernel_rfl
theorem OwnI.setBelow {w : World} {B : Nat} {v : Value} {xs : List Int} (h : OwnI w B v xs) {p : Addr} (hp : p.block < B) (u : Value) : OwnI (w.setCell p u) B v xs := ownsRow_setCell_below h hp u
theorem OwnI.alloc {w : World} {B : Nat} {v : Value} {xs : List Int} (h : OwnI w B v xs) (o : Obj) : OwnI (w.alloc o) B v xs := h.below ((Below.refl _ _).alloc (Nat.le_refl _) o) (Nat.le_refl _)
theorem Below.mono' {B B' : Nat} {w w' : World} (h : Below B w w') (hB : B' ≤ B) : Below B' w w' := h.mono hB
/-- a block that holds two cells -/
def Box2 (w : World) (b : Nat) (u v : Value) : Prop := b < w.heap.size ∧ w.cell? ⟨b, 0, none⟩ = some u ∧ w.cell? ⟨b, 1, none⟩ = some v
theorem Box2.below {w w' : World} {b : Nat} {u v : Value} (h : Box2 w b u v) (hb : Below w.heap.size w w') : Box2 w' b u v :=
  ⟨Nat.lt_of_lt_of_le h.1 hb.size, (hb.cell (p := ⟨b, 0, none⟩) h.1).trans h.2.1, (hb.cell (p := ⟨b, 1, none⟩) h.1).trans h.2.2⟩
theorem Box2.new (w : World) (u v : Value) (t : TypeId) : Box2 (w.alloc (.cells #[u, v] t)) w.heap.size u v :=
  ⟨by simp, by simp, by simp⟩
theorem Box2.kept {w w' : World} {b : Nat} {u v : Value} {row : Option Nat} (h : Box2 w b u v) (hg : w.grownBy w' row) (hne : some b ≠ row) : Box2 w' b u v :=
  ⟨Nat.lt_of_lt_of_le h.1 hg.size, hg.cell h.2.1 hne, hg.cell h.2.2 hne⟩
theorem OwnI.lt {w : World} {B : Nat} {v : Value} {xs : List Int} (h : OwnI w B v xs) : ∀ b, v.ownBlock = some b → B ≤ b ∧ b < w.heap.size := World.ownsRow.lt h
theorem OwnI.cut {w : World} {B : Nat} {v : Value} {xs : List Int} (h : OwnI w B v xs) {U : Nat} (hU : w.heap.size ≤ U) : ∀ b, v.ownBlock = some b → B ≤ b ∧ b < U := fun b e => ⟨(h.lt b e).1, Nat.lt_of_lt_of_le (h.lt b e).2 hU⟩
/-- a block of two cells that may be written -/
def Var2 (w : World) (b : Nat) (u v : Value) : Prop := Box2 w b u v ∧ w.frozen? ⟨b, 0, none⟩ = false ∧ w.frozen? ⟨b, 1, none⟩ = false
theorem Var2.below {w w' : World} {b : Nat} {u v : Value} (h : Var2 w b u v) (hb : Below w.heap.size w w') : Var2 w' b u v :=
  ⟨h.1.below hb, (hb.frozen (p := ⟨b, 0, none⟩) h.1.1).trans h.2.1, (hb.frozen (p := ⟨b, 1, none⟩) h.1.1).trans h.2.2⟩
theorem Var2.new (w : World) (u v : Value) (t : TypeId) : Var2 (w.alloc (.cells #[u, v] t)) w.heap.size u v :=
  ⟨Box2.new w u v t, by simp, by simp⟩
theorem Var2.alloc {w : World} {b : Nat} {u v : Value} (h : Var2 w b u v) (o : Obj) : Var2 (w.alloc o) b u v := h.below ((Below.refl _ _).alloc (Nat.le_refl _) o)
theorem Var2.kept {w w' : World} {b : Nat} {u v : Value} {row : Option Nat} (h : Var2 w b u v) (hg : w.grownBy w' row) (hne : some b ≠ row) : Var2 w' b u v :=
  ⟨h.1.kept hg hne, (World.frozen?_of_block (w := w) (a := ⟨b, 0, none⟩) (hg.block b h.1.1 hne)).trans h.2.1, (World.frozen?_of_block (w := w) (a := ⟨b, 1, none⟩) (hg.block b h.1.1 hne)).trans h.2.2⟩
theorem Var2.set {w : World} {b : Nat} {u v : Value} (h : Var2 w b u v) (u' v' : Value) : Var2 ((w.setCell ⟨b, 0, none⟩ u').setCell ⟨b, 1, none⟩ v') b u' v' := by
  refine ⟨⟨by simpa using h.1.1, ?_, ?_⟩, by simpa using h.2.1, by simpa using h.2.2⟩
  · rw [World.cell?_setCell_other _ _ _ _ (by simp), World.cell?_setCell_same _ _ _ h.1.2.1]
  · rw [World.cell?_setCell_same _ _ _ (u := v) (by rw [World.cell?_setCell_other _ _ _ _ (by simp)]; exact h.1.2.2)]
theorem grown_set (w : World) (p : Addr) (u : Value) : w.grownBy (w.setCell p u) (some p.block) :=
  ⟨rfl, rfl, rfl, by simp, fun k hk hn => Below.heap_setCell w p u k (fun e => hn (by rw [e]))⟩
theorem Var2.set1 {w : World} {b : Nat} {u v : Value} (h : Var2 w b u v) (v' : Value) : Var2 (w.setCell ⟨b, 1, none⟩ v') b u v' := by
  refine ⟨⟨by simpa using h.1.1, ?_, ?_⟩, by simpa using h.2.1, by simpa using h.2.2⟩
  · rw [World.cell?_setCell_other _ _ _ _ (by simp)]; exact h.1.2.1
  · rw [World.cell?_setCell_same _ _ _ h.1.2.2]
theorem Box2.set {w : World} {b : Nat} {u v : Value} (h : Box2 w b u v) {p : Addr} (x : Value) (hne : b ≠ p.block) : Box2 (w.setCell p x) b u v :=
  h.kept (grown_set w p x) (by simpa using hne)
theorem Var2.other {w : World} {b : Nat} {u v : Value} (h : Var2 w b u v) {p : Addr} (x : Value) (hne : b ≠ p.block) : Var2 (w.setCell p x) b u v :=
  h.kept (grown_set w p x) (by simpa using hne)
theorem ne_own {v : Value} {b : Nat} (h : ∀ c, v.ownBlock = some c → c ≠ b) : some b ≠ v.ownBlock := fun e => h b e.symm rfl
theorem grown_alloc_set {w w1 : World} {r : Option Nat} {o : Obj} (h : (w.alloc o).grownBy w1 r) : w.grownBy w1 r :=
  ⟨h.os, h.tape, h.output, by have := h.size; simp at this; omega, fun k hk hn => (h.block k (by simp; omega) hn).trans (Below.heap_alloc w o k hk)⟩
theorem grown_trans {w w1 w2 : World} {r : Option Nat} (h1 : w.grownBy w1 r) (h2 : w1.grownBy w2 r) : w.grownBy w2 r :=
  ⟨h2.os.trans h1.os, h2.tape.trans h1.tape, h2.output.trans h1.output, Nat.le_trans h1.size h2.size, fun k hk hn => (h2.block k (by have := h1.size; omega) hn).trans (h1.block k hk hn)⟩
theorem OwnI.nil (w : World) (B : Nat) : OwnI w B (.slice none 0 0) [] := World.ownsRow_nil _ _ _ _
theorem below_of_grown {w w' : World} {v : Value} {B : Nat} (hg : w.grownBy w' v.ownBlock) (hB : ∀ b, v.ownBlock = some b → B ≤ b) (hs : B ≤ w.heap.size) : Below B w w' :=
  ⟨hg.os, hg.tape, hg.output, hg.size, fun k hk => hg.block k (by omega) (fun e => by have := hB k e.symm; omega)⟩

theorem set_step (xs : List Int) (k : Nat) (h : k < xs.length) :
    ((xs.take k ++ List.replicate (xs.length - k) (0:Int)).map (Value.int .i64)).set k (.int .i64 (nth xs k)) = (xs.take (k+1) ++ List.replicate (xs.length - (k+1)) (0:Int)).map (Value.int .i64) := by
  apply List.ext_getElem?
  intro j
  have hk : (xs.take k).length = k := by simp; omega
  have hk1 : (xs.take (k+1)).length = k+1 := by simp; omega
  rw [List.getElem?_set]
  by_cases hj : k = j
  · subst hj
    rw [if_pos rfl, if_pos (by simp; omega), List.getElem?_map, List.getElem?_append_left (by omega)]
    simp [nth, h]
  · simp only [hj, if_false, List.getElem?_map, List.getElem?_append, hk, hk1, List.getElem?_take, List.getElem?_replicate]
    by_cases h1 : j < k
    · have h2 : j < k + 1 := by omega
      simp [h1, h2]
    · have h2 : ¬ j < k + 1 := by omega
      have h3 : j - k < xs.length - k ↔ j - (k+1) < xs.length - (k+1) := by omega
      simp [h1, h2, h3]
theorem toIntS_any (a : Option Addr) (xs : List Int) (cap : Nat) (w : World) (hx : Rd w a xs) (hn : xs.length ≤ 1048576) :
    Calls Tryd.prog 6 #[.slice a xs.length cap] w fun e w' => ∃ a' cap', e = .returned (.slice a' xs.length cap') ∧ OwnI w' w.heap.size (.slice a' xs.length cap') xs ∧ Below w.heap.size w w' := by
  obtain ⟨i0, hi, hz0, hz1, hz2⟩ := info_parts infoInt
  go_enter Tryd.func6, Tryd.ntmps6
  go_wp2_with (at_make; refine wpList_make_full _ rfl (.tmp 6) (.tmp 6) 22 rfl w.heap.size 3 i0 (.int .i64 0) 1 Tryd.underlying22 hi hz0 hz1 .i64 .i64 _ _ xs.length rfl rfl rfl rfl (by rw [hz2]; omega) (by unfold maxLen; omega) (Nat.le_refl _) ?_; intro w1 hown hgrow)
  have hb0 : Below w.heap.size w w1 := (Below.refl _ _).grown hgrow (Nat.le_refl _) (fun k h => by cases h)
  have hown0 : w1.ownsRow w.heap.size 3 1 (.slice (some ⟨w.heap.size, 0, none⟩) xs.length xs.length) xs.length ((xs.take 0 ++ List.replicate (xs.length - 0) (0:Int)).map (Value.int .i64)) := by
    simpa [Value.cells, toList_madeCells_one] using hown
  clear hown hgrow
  have hz : w.heap.size < w1.heap.size := by
    have := (World.ownsRow.lt hown0 w.heap.size rfl).2
    omega
  go_loopw [4] (fun i wr => ∃ k : Nat, k ≤ xs.length ∧ i = .int .i64 k ∧ wr.ownsRow w.heap.size 3 1 (.slice (some ⟨w.heap.size, 0, none⟩) xs.length xs.length) xs.length ((xs.take k ++ List.replicate (xs.length - k) (0:Int)).map (Value.int .i64)) ∧ Below w.heap.size w wr) (fun i _ => xs.length - (intOf i).toNat)
  case atStart => exact ⟨0, Nat.zero_le _, rfl, hown0, hb0⟩
  case round =>
    obtain ⟨k, hk, rfl, hown, hb⟩ := hrel
    by_cases hlt : k < xs.length
    · obtain ⟨b, off, rfl, hbl, hc⟩ := hx.cell k hlt
      have hc1 := (hb.cell (p := ⟨b, off + k, none⟩) hbl).trans hc
      have hst := World.ownsRow.stored hown k (.int .i64 (nth xs k))
      rw [set_step xs k hlt] at hst
      have hcc := World.ownsRow.cellAt hown k (by omega)
      have hfr := World.ownsRow.frozenAt hown k
      have hcc' : ∃ u, wr.cell? ⟨w.heap.size, k, none⟩ = some u := by
        rw [hcc]
        exact ⟨_, List.getElem?_eq_getElem (by simp; omega)⟩
      obtain ⟨u, hu⟩ := hcc'
      have Hst := Lib.hid hst
      clear hst hcc hown hc
      go_wp2
      go_roundw
      case rel => exact ⟨k + 1, by omega, by go_num, Hst.out.1, hb.setCell (Nat.le_refl _) _⟩
      case measure => simp [intOf]; omega
    · obtain rfl : k = xs.length := by omega
      go_wp2
      go_ret
      refine ⟨_, _, rfl, ?_, hb⟩
      have : xs.take xs.length ++ List.replicate (xs.length - xs.length) (0:Int) = xs := by simp
      rw [this] at hown
      exact hown

def eqL (xs ys : List Int) : Bool := decide (xs = ys)
theorem eqIntS_any (a b : Option Addr) (xs ys : List Int) (ca cb : Nat) (w : World) (hx : Rd w a xs) (hy : Rd w b ys) :
    Calls Tryd.prog 8 #[.slice a xs.length ca, .slice b ys.length cb] w fun e w' => e = .returned (.bool (eqL xs ys)) ∧ Below w.heap.size w w' := by
  have hlx := hx.len
  have hly := hy.len
  by_cases hl : xs.length = ys.length
  · have hl' : ((xs.length : Int) != (ys.length : Int)) = false := by simp [hl]
    go_enter Tryd.func8, Tryd.ntmps8
    have HL := Lib.hid hl
    clear hl
    go_wp2_with fail
    go_loopw [5] (fun i wr => ∃ k : Nat, k ≤ xs.length ∧ i = .int .i64 k ∧ xs.take k = ys.take k ∧ Below w.heap.size w wr) (fun i _ => xs.length - (intOf i).toNat)
    case atStart => exact ⟨0, Nat.zero_le _, rfl, rfl, Below.refl _ _⟩
    case round =>
      obtain ⟨k, hk, rfl, htk, hb⟩ := hrel
      have HT := Lib.hid htk
      clear htk
      by_cases hlt : k < xs.length
      · have hlt' : k < ys.length := by rw [← HL.out]; exact hlt
        obtain ⟨b1, o1, rfl, hb1, hc1⟩ := (hx.below hb).cell k hlt
        obtain ⟨b2, o2, rfl, hb2, hc2⟩ := (hy.below hb).cell k hlt'
        by_cases he : nth xs k = nth ys k
        · have he' : (nth xs k != nth ys k) = false := by simp [he]
          have HE := Lib.hid he
          clear he
          go_wp2_with fail
          go_quiet (fail)
          go_wp2_with fail
          go_roundw
          case rel =>
            refine ⟨k + 1, by omega, by go_num, ?_, by exact hb.trans (Joins.below_draws _ _ _)⟩
            rw [List.take_succ_eq_append_getElem hlt, List.take_succ_eq_append_getElem hlt', HT.out, ← nth_get, ← nth_get, HE.out]
          case measure => simp [intOf]; omega
        · have he' : (nth xs k != nth ys k) = true := by simp [he]
          have hne : eqL xs ys = false := by
            simp only [eqL, decide_eq_false_iff_not]
            intro e
            subst e
            exact he rfl
          have HN := Lib.hid hne
          clear he hne
          go_wp2_with fail
          go_quiet (fail)
          go_wp2_with fail
          go_ret
          exact ⟨ret_bool HN.out.symm, hb.trans (Joins.below_draws _ _ _)⟩
      · go_wp2_with fail
        go_ret
        refine ⟨ret_bool ?_, hb⟩
        have h1 := HT.out
        rw [List.take_of_length_le (by omega), List.take_of_length_le (by rw [← HL.out]; omega)] at h1
        simp [eqL, h1]
  · have hl' : ((xs.length : Int) != (ys.length : Int)) = true := by simp; omega
    have hne : eqL xs ys = false := by
      simp only [eqL, decide_eq_false_iff_not]
      intro e
      exact hl (by rw [e])
    have HN := Lib.hid hne
    clear hl hne
    go_enter Tryd.func8, Tryd.ntmps8
    go_wp2_with fail
    go_ret
    exact ⟨ret_bool HN.out.symm, Below.refl _ _⟩
theorem eqL_self (xs : List Int) : eqL xs xs = true := by simp [eqL]

/-- one number more at the end of a row that is owned -/
theorem push_at {ops : Array Oper} {rest : List Oper} {o : Oper} {a : Act} {Q : Exit → Act → World → Prop} (hgd : o.guard = none) (s x : Operand)
    (ho : o.op = .call { callee := .builtin .append, args := #[s, x], argTypes := #[22, 22] }) {wr : World} {B : Nat} {v : Value} {ys : List Int} {z : Int}
    (hs : a.eval s = v) (hown : OwnI wr B v ys) (hx : a.eval x = .slice (some ⟨wr.heap.size, 0, none⟩) 1 1) (h63 : ys.length ≤ 1048576) (hB : B ≤ wr.heap.size)
    (h : ∀ v' w', OwnI w' B v' (ys ++ [z]) → wr.grownBy w' v.ownBlock → (v'.ownBlock = v.ownBlock ∨ v'.ownBlock = some (wr.heap.size + 1)) → wpList Tryd.prog ops Q rest (a.put o.dst v') w') :
    wpList Tryd.prog ops Q (o :: rest) a (wr.alloc (.cells #[.int .i64 z] 3)) := by
  obtain ⟨i0, hi, hz0, hz1, hz2⟩ := info_parts infoInt
  refine wpList_append_own_at _ hgd s x 22 ho B 3 i0 (.int .i64 0) 1 8 Tryd.underlying22 hi hz0 hz1 hz2 rfl (by decide) v ys.length (ys.map (Value.int .i64)) hs (hown.alloc _) ⟨wr.heap.size, 0, none⟩ 1 1 [.int .i64 z] hx rfl (cell_one_new _ _ _) (by intro u hu; simp at hu; subst hu; rfl) (by unfold maxLen; omega) (by omega) (by simp; omega) ?_
  intro v' w' ho2 hg _ hat
  refine h v' w' ?_ (grown_alloc_set hg) (by simpa using hat)
  unfold OwnI
  rw [List.length_append, List.map_append]
  exact ho2
/-- the same at a step of a region that draws its order; the new number lies somewhere -/
theorem step_push {ops : Array Oper} {o : Oper} {a : Act} {K : Act → World → Prop} {Q : Exit → Act → World → Prop} {E : Prop} (hgd : o.guard = none) (s x : Operand)
    (ho : o.op = .call { callee := .builtin .append, args := #[s, x], argTypes := #[22, 22] }) {W : World} {B g n : Nat} {v : Value} {ys : List Int} {z : Int}
    (hs : a.eval s = v) (hx : a.eval x = .slice (some ⟨g, 0, none⟩) 1 1) (hown : OwnI W B v ys) (hn : ys.length = n) (hz : W.cell? ⟨g, 0, none⟩ = some (.int .i64 z)) (h63 : n ≤ 1048576) (hB : B ≤ W.heap.size)
    (h : ∀ g' cap w', OwnI w' B (.slice (some ⟨g', 0, none⟩) (n + 1) cap) (ys ++ [z]) → W.grownBy w' v.ownBlock → (v.ownBlock = some g' ∨ g' = W.heap.size) → K (a.put o.dst (.slice (some ⟨g', 0, none⟩) (n + 1) cap)) w') :
    if Region.wanted o (yielded ops a.tmps) = true then Oper.wp Tryd.prog o a W K Q else E := by
  subst hn
  obtain ⟨i0, hi, hz0, hz1, hz2⟩ := info_parts infoInt
  refine step_append_lies W hgd s x 22 ho B 3 i0 (.int .i64 0) 1 8 Tryd.underlying22 hi hz0 hz1 hz2 rfl (by decide) v ys.length (ys.map (Value.int .i64)) hs hown ⟨g, 0, none⟩ 1 1 [.int .i64 z] hx rfl ?_ (by intro u hu; simp at hu; subst hu; rfl) (by omega) (by unfold maxLen; omega) (by omega) hB W.heap.size rfl ?_
  · intro j u hj
    obtain ⟨hlt, e⟩ := List.getElem?_eq_some_iff.1 hj
    have h0 : j = 0 := by simpa using hlt
    subst h0
    simp at e
    subst e
    rw [Addr.add_lit]; simpa using hz
  · intro g' cap w' ho2 hg hat _
    refine h g' cap w' ?_ hg hat
    unfold OwnI
    rw [List.length_append, List.map_append]
    exact ho2
theorem news_after {w w3 : World} {x : Int} {m : Nat} (h : Below ((w.drewN m).alloc (.cells #[.int .i64 x] 3)).heap.size ((w.drewN m).alloc (.cells #[.int .i64 x] 3)) w3) : w3.cell? ⟨w.heap.size, 0, none⟩ = some (.int .i64 x) :=
  (h.cell (p := ⟨w.heap.size, 0, none⟩) (show w.heap.size < ((w.drewN m).alloc _).heap.size by rw [World.size_alloc]; exact Nat.lt_succ_of_le (Joins.below_draws w.heap.size w m).size)).trans ((show ∀ W : World, (W.alloc (.cells #[.int .i64 x] 3)).cell? ⟨W.heap.size, 0, none⟩ = some (.int .i64 x) from fun W => by simp) (w.drewN m))
theorem below_after {w w3 : World} {m : Nat} {o : Obj} (h : Below ((w.drewN m).alloc o).heap.size ((w.drewN m).alloc o) w3) : Below w.heap.size w w3 :=
  Below.trans ((Joins.below_draws w.heap.size w m).alloc (Joins.below_draws w.heap.size w m).size _) (h.mono (Nat.le_trans (Joins.below_draws w.heap.size w m).size (by simp)))
theorem below_drew {w w3 : World} {m : Nat} (h : Below (w.drewN m).heap.size (w.drewN m) w3) : Below w.heap.size w w3 :=
  Below.trans (Joins.below_draws w.heap.size w m) (h.mono (Joins.below_draws w.heap.size w m).size)
/-- two values that own no block together -/
def SepV (v u : Value) : Prop := ∀ c, v.ownBlock = some c → u.ownBlock ≠ some c
theorem SepV.symm {v u : Value} (h : SepV v u) : SepV u v := fun c e e2 => h c e2 e
/-- the first of two rows has grown -/
theorem SepV.grow {w : World} {B : Nat} {v v' u : Value} {ys : List Int} {m : Nat} (h : SepV v u) (hu : OwnI w B u ys) (hm : w.heap.size ≤ m) (hat : v'.ownBlock = v.ownBlock ∨ v'.ownBlock = some m) : SepV v' u := by
  intro c e e2
  rcases hat with h1 | h1
  · exact h c (h1 ▸ e) e2
  · rw [h1] at e
    have := (hu.lt c e2).2
    simp only [Option.some.injEq] at e
    omega

theorem wrap64_small (n : Int) (h0 : -9223372036854775808 ≤ n) (h1 : n ≤ 9223372036854775807) : IntKind.i64.wrap n = n := by
  simp only [IntKind.wrap, IntKind.bits, IntKind.signed]
  simp
  omega
theorem i64_wrap (n : Int) : IntKind.i64.wrap n = wrap64 n := IntWalk.i64_left n
theorem ofInt_i64 (a : Nat) (ha : a < 9223372036854775808) : (BitVec.ofInt 64 (a : Int)).toNat = a := by
  simp
  omega
theorem and_nat (a b : Nat) (ha : a < 9223372036854775808) (hb : b < 9223372036854775808) : bits .and .i64 (a : Int) (b : Int) = ((a &&& b : Nat) : Int) := by
  have hx : a &&& b < 2 ^ 63 := Nat.and_lt_two_pow _ (by omega)
  show IntKind.i64.wrap ((BitVec.ofInt 64 (a : Int) &&& BitVec.ofInt 64 (b : Int)).toNat : Int) = _
  rw [BitVec.toNat_and, ofInt_i64 a ha, ofInt_i64 b hb, wrap64_small _ (by omega) (by omega)]
theorem or_nat (a b : Nat) (ha : a < 9223372036854775808) (hb : b < 9223372036854775808) : bits .or .i64 (a : Int) (b : Int) = ((a ||| b : Nat) : Int) := by
  have hx : a ||| b < 2 ^ 63 := Nat.or_lt_two_pow (by omega) (by omega)
  show IntKind.i64.wrap ((BitVec.ofInt 64 (a : Int) ||| BitVec.ofInt 64 (b : Int)).toNat : Int) = _
  rw [BitVec.toNat_or, ofInt_i64 a ha, ofInt_i64 b hb, wrap64_small _ (by omega) (by omega)]
/-- a set without the elements of another one -/
def sub (a b : Nat) : Nat := a ^^^ (a &&& b)
theorem testBit_sub (a b i : Nat) : (sub a b).testBit i = (a.testBit i && !b.testBit i) := by
  simp [sub, Nat.testBit_xor, Nat.testBit_and]
  cases a.testBit i <;> cases b.testBit i <;> rfl
theorem sub_lt {a b n : Nat} (h : a < 2 ^ n) : sub a b < 2 ^ n := by
  unfold sub
  exact Nat.xor_lt_two_pow h (by rw [Nat.and_comm]; exact Nat.and_lt_two_pow _ h)
theorem sub_nat (a b : Nat) (ha : a < 9223372036854775808) (hb : b < 9223372036854775808) : bits .andNot .i64 (a : Int) (b : Int) = ((sub a b : Nat) : Int) := by
  have hs : sub a b < 2 ^ 63 := sub_lt (by omega)
  show IntKind.i64.wrap ((BitVec.ofInt 64 (a : Int) &&& ~~~BitVec.ofInt 64 (b : Int)).toNat : Int) = _
  have e : (BitVec.ofInt 64 (a : Int) &&& ~~~BitVec.ofInt 64 (b : Int)).toNat = sub a b := by
    apply Nat.eq_of_testBit_eq
    intro i
    rw [BitVec.testBit_toNat, BitVec.getLsbD_and, BitVec.getLsbD_not, testBit_sub, ← BitVec.testBit_toNat, ← BitVec.testBit_toNat, ofInt_i64 a ha, ofInt_i64 b hb]
    by_cases hi : i < 64
    · simp [hi]
    · have : a.testBit i = false := Nat.testBit_lt_two_pow (Nat.lt_of_lt_of_le (by omega : a < 2 ^ 64) (Nat.pow_le_pow_right (by omega) (by omega)))
      simp [this]
  rw [e, wrap64_small _ (by omega) (by omega)]
theorem shr_nat (s i : Nat) (hs : s < 9223372036854775808) : (s : Int) / (2 ^ min i 64) = ((s >>> i : Nat) : Int) := by
  rw [Nat.shiftRight_eq_div_pow]
  by_cases h : i ≤ 64
  · rw [Nat.min_eq_left h]
    simp
  · rw [Nat.min_eq_right (by omega)]
    have : 2 ^ 64 ≤ 2 ^ i := Nat.pow_le_pow_right (by omega) (by omega)
    rw [Nat.div_eq_of_lt (by omega)]
    omega
theorem bit_and (s i : Nat) (hs : s < 9223372036854775808) : (bits .and .i64 ((s >>> i : Nat) : Int) 1 == 1) = s.testBit i := by
  have h1 : s >>> i ≤ s := by rw [Nat.shiftRight_eq_div_pow]; exact Nat.div_le_self _ _
  have := and_nat (s >>> i) 1 (by omega) (by omega)
  rw [show ((1 : Nat) : Int) = 1 from rfl] at this
  rw [this, Nat.testBit, Nat.and_one_is_mod, Nat.and_comm, Nat.and_one_is_mod]
  rcases Nat.mod_two_eq_zero_or_one (s >>> i) with h | h <;> simp [h]
theorem bit_mod (s i : Nat) : (((s >>> i : Nat) : Int) % 2 == 1) = s.testBit i := by
  rw [Nat.testBit, Nat.and_comm, Nat.and_one_is_mod]
  rcases Nat.mod_two_eq_zero_or_one (s >>> i) with h | h
  · have h2 : ((s >>> i : Nat) : Int) % 2 = 0 := by omega
    rw [h2, h]; rfl
  · have h2 : ((s >>> i : Nat) : Int) % 2 = 1 := by omega
    rw [h2, h]; rfl
theorem bit_tmod (s i : Nat) : (((s >>> i : Nat) : Int).tmod 2 == 1) = s.testBit i := by
  rw [Int.tmod_eq_emod_of_nonneg (Int.natCast_nonneg _), bit_mod]
/-- is i in the set s? -/
def hasB (s i : Int) : Bool := s.toNat.testBit i.toNat
theorem has_and {s i : Int} (h0 : 0 ≤ s) (h1 : s ≤ 9223372036854775807) (hi : 0 ≤ i) : (bits .and .i64 (s / 2 ^ min i.toNat 64) 1 == 1) = hasB s i := by
  obtain ⟨S, rfl⟩ := Int.eq_ofNat_of_zero_le h0
  rw [shr_nat S _ (by omega), bit_and S _ (by omega)]
  rfl
theorem has_mod {s i : Int} (h0 : 0 ≤ s) (h1 : s ≤ 9223372036854775807) (hi : 0 ≤ i) : ((s / 2 ^ min i.toNat 64).tmod 2 == 1) = hasB s i := by
  obtain ⟨S, rfl⟩ := Int.eq_ofNat_of_zero_le h0
  rw [shr_nat S _ (by omega), bit_tmod S]
  rfl
theorem pow_w {k : Nat} (h : k < 62) : wrap64 (2 ^ k) = ((2 ^ k : Nat) : Int) := by
  have : 2 ^ k ≤ 2 ^ 61 := Nat.pow_le_pow_right (by omega) (by omega)
  rw [show ((2:Int) ^ k) = ((2 ^ k : Nat) : Int) by simp]
  generalize hp : 2 ^ k = p at *
  exact IntWalk.wrap64_in _ ⟨by omega, by omega⟩
theorem or_bit {b k : Nat} (hb : b < 4611686018427387904) (hk : k < 62) : bits .or .i64 (b : Int) (wrap64 (2 ^ k)) = ((b ||| 2 ^ k : Nat) : Int) := by
  rw [pow_w hk]
  have : 2 ^ k ≤ 2 ^ 61 := Nat.pow_le_pow_right (by omega) (by omega)
  exact or_nat _ _ (by omega) (by omega)
theorem or_i {a b : Int} (ha : 0 ≤ a) (ha1 : a < 9223372036854775808) (hb : 0 ≤ b) (hb1 : b < 9223372036854775808) : bits .or .i64 a b = ((a.toNat ||| b.toNat : Nat) : Int) := by
  obtain ⟨A, rfl⟩ := Int.eq_ofNat_of_zero_le ha
  obtain ⟨B, rfl⟩ := Int.eq_ofNat_of_zero_le hb
  exact or_nat A B (by omega) (by omega)
theorem sub_i {a b : Int} (ha : 0 ≤ a) (ha1 : a < 9223372036854775808) (hb : 0 ≤ b) (hb1 : b < 9223372036854775808) : bits .andNot .i64 a b = ((sub a.toNat b.toNat : Nat) : Int) := by
  obtain ⟨A, rfl⟩ := Int.eq_ofNat_of_zero_le ha
  obtain ⟨B, rfl⟩ := Int.eq_ofNat_of_zero_le hb
  exact sub_nat A B (by omega) (by omega)
theorem or_lt {a b n : Nat} (ha : a < 2 ^ n) (hb : b < 2 ^ n) : a ||| b < 2 ^ n := Nat.or_lt_two_pow ha hb
theorem two_lt {k n : Nat} (h : k < n) : 2 ^ k < 2 ^ n := Nat.pow_lt_pow_right (by omega) h
theorem testBit_two (k i : Nat) : (2 ^ k).testBit i = decide (k = i) := Nat.testBit_two_pow

def decB (n : Nat) : ByteArray := ⟨(Lib.decDigits n).toArray⟩
/-- one byte as a text -/
def byteB (c : Nat) : ByteArray := ⟨#[UInt8.ofNat c]⟩
theorem byteB_size (c : Nat) : (byteB c).size = 1 := rfl
theorem decB_small {n : Nat} (h : n < 10) : decB n = byteB (48 + n) := by rw [decB, Lib.decDigits, dif_pos h]; rfl
theorem decB_big {n : Nat} (h : ¬ n < 10) : decB (n / 10) ++ byteB (48 + n % 10) = decB n := by
  rw [decB, decB, Lib.decDigits.eq_def n, dif_neg h, byteB, ByteArray.mk_append_mk]
theorem dec_len (n : Nat) : (Lib.decDigits n).length ≤ n + 1 := by
  induction n using Nat.strongRecOn with
  | _ n ih =>
    rw [Lib.decDigits]
    split
    · simp
    · have := ih (n / 10) (by omega)
      rw [List.length_append]; simp; omega
theorem decB_size (n : Nat) : (decB n).size ≤ n + 1 := by
  have := dec_len n
  simpa [decB, ByteArray.size] using this
theorem conv_one {W : World} {b : Nat} {c : Nat} (hc : c < 256) (h : W.cell? ⟨b, 0, none⟩ = some (.int .u8 (c : Int))) :
    (convert 51 9 (.slice (some ⟨b, 0, none⟩) 1 1)).run Tryd.prog W = .ok (.string (byteB c)) W :=
  run_convert_bytes_back (P := Tryd.prog) W 51 9 5 ⟨b, 0, none⟩ 1 [UInt8.ofNat c] Tryd.underlying51 Tryd.underlying5 Tryd.underlying9 (fun j hj => by
    have hj0 : j = 0 := by simpa using hj
    subst hj0
    have e : ((UInt8.ofNat c).toNat : Int) = (c : Int) := by simp; omega
    simp only [List.getElem_cons_zero, e]
    exact h)
theorem conv_new {W : World} {x : Int} {c : Nat} (hc : c < 256) (h : x = (c : Int)) :
    (convert 51 9 (.slice (some ⟨W.heap.size, 0, none⟩) 1 1)).run Tryd.prog (W.alloc (.cells #[.int .u8 x] 5)) = .ok (.string (byteB c)) (W.alloc (.cells #[.int .u8 x] 5)) :=
  conv_one hc (by subst h; simp)
theorem ret_str {a b : ByteArray} (h : a = b) : Ending.returned (.string a) = .returned (.string b) := by rw [h]
theorem news8 {W w3 : World} {x : Int} (h : Below (W.alloc (.cells #[.int .u8 x] 5)).heap.size (W.alloc (.cells #[.int .u8 x] 5)) w3) : w3.cell? ⟨W.heap.size, 0, none⟩ = some (.int .u8 x) :=
  (h.cell (p := ⟨W.heap.size, 0, none⟩) (show W.heap.size < (W.alloc _).heap.size by rw [World.size_alloc]; exact Nat.lt_succ_self _)).trans (by simp)
theorem undrew {W w3 : World} (h : Below W.drew.heap.size W.drew w3) : Below W.heap.size W w3 := Below.trans (Below.refl _ W).drew (h.mono (Nat.le_refl _))
theorem below_al {W w3 : World} {o : Obj} (h : Below (W.alloc o).heap.size (W.alloc o) w3) : Below W.heap.size W w3 :=
  Below.trans ((Below.refl W.heap.size W).alloc (Nat.le_refl _) o) (h.mono (by simp))
set_option maxRecDepth 100000 in
theorem l1Num_any : ∀ (n : Nat) (w : World), n ≤ 1000000000 →
    Calls Tryd.prog 22 #[.int .i64 (n : Int)] w fun e w' => e = .returned (.string (decB n)) ∧ Below w.heap.size w w' := by
  intro n
  induction n using Nat.strongRecOn with
  | _ n ih =>
  intro w hn
  by_cases h10 : n < 10
  · have h10' : (n : Int) < 10 := by omega
    have HB := Lib.hid (decB_small h10)
    have hconv := conv_new (W := w) (x := 48 + (n : Int)) (c := 48 + n) (by omega) (by omega)
    clear ih
    go_enter Tryd.func22, Tryd.ntmps22
    go_wp2_with fail
    go_ret
    exact ⟨ret_str HB.out.symm, (by repeat (first | exact Below.refl _ _ | assumption | refine Below.alloc ?_ (by first | exact Nat.le_refl _ | (simp only [World.size_alloc, World.size_setCell, World.size_drew]; omega) | omega) _ | refine Below.setCell ?_ (by first | exact Nat.le_refl _ | (simp only [World.size_alloc, World.size_setCell, World.size_drew]; omega) | omega) _ | refine Below.drew ?_))⟩
  · have h10' : ¬ (n : Int) < 10 := by omega
    obtain ⟨q, hq⟩ : ∃ q, q = n / 10 := ⟨_, rfl⟩
    obtain ⟨r, hr⟩ : ∃ r, r = n % 10 := ⟨_, rfl⟩
    have hr10 : r < 10 := by omega
    have IH : Hid (∀ w : World, Calls Tryd.prog 22 #[.int .i64 (q : Int)] w fun e w' => e = .returned (.string (decB q)) ∧ Below w.heap.size w w') := fun w => ih q (by omega) w (by omega)
    have hadd : ∀ W : World, (Op.stringOp .add (decB q) (byteB (48 + r))).run Tryd.prog W = .ok (.string (decB n)) W := fun W => by
      rw [run_string_add_sum W _ _ (by
        have h1 := decB_size q
        have h2 := byteB_size (48 + r)
        omega), hq, hr, decB_big h10]
    have hc1 : IntKind.i64.wrap ((n : Int) / 10) = (q : Int) := by rw [i64_wrap, IntWalk.wrap64_in _ ⟨by omega, by omega⟩]; omega
    have hc2 : (n : Int).tmod 10 = (r : Int) := by rw [Int.tmod_eq_emod_of_nonneg (by omega)]; omega
    have hc3 : IntKind.i64.wrap (48 + (r : Int)) = 48 + (r : Int) := by rw [i64_wrap, IntWalk.wrap64_in _ ⟨by omega, by omega⟩]
    have hc4 : IntKind.u8.wrap (48 + (r : Int)) = 48 + (r : Int) := by simp [IntKind.wrap, IntKind.bits, IntKind.signed]; omega
    have HCV : Hid (∀ W : World, (convert 51 9 (.slice (some ⟨W.heap.size, 0, none⟩) 1 1)).run Tryd.prog (W.alloc (.cells #[.int .u8 (48 + (r : Int))] 5)) = .ok (.string (byteB (48 + r))) (W.alloc (.cells #[.int .u8 (48 + (r : Int))] 5))) := fun W => conv_new (by omega) (by omega)
    clear ih hq hr
    go_enter Tryd.func22, Tryd.ntmps22
    go_wp2_with fail
    have k1 := HCV.out w
    have k2 : (convert 51 9 (.slice (some ⟨w.heap.size, 0, none⟩) 1 1)).run Tryd.prog (w.alloc (.cells #[.int .u8 (48 + (r : Int))] 5)).drew = .ok (.string (byteB (48 + r))) (w.alloc (.cells #[.int .u8 (48 + (r : Int))] 5)).drew := conv_one (by omega) (show (w.alloc (.cells #[.int .u8 (48 + (r : Int))] 5)).cell? _ = _ by simp)
    go_region_law (go_simp; go_at_call 22; refine (IH.out _).mono ?_; rintro e w3 ⟨rfl, hb3'⟩; have hb3 := undrew hb3'; have k3 := HCV.out w3; (try have k4 : (convert 51 9 (.slice (some ⟨w.heap.size, 0, none⟩) 1 1)).run Tryd.prog w3 = .ok (.string (byteB (48 + r))) w3 := conv_one (by omega) (news8 hb3)); have b3 : Below w.heap.size w w3 := (by first | exact hb3 | exact below_al hb3); clear hb3 hb3')
    all_goals
      go_simp
      go_wp2_with fail
      go_ret
      exact ⟨rfl, by first | exact b3 | exact b3.alloc b3.size _⟩

theorem join_snoc (l : List (List UInt8)) (y sep : List UInt8) : Lib.join (l ++ [y]) sep = (if l = [] then [] else Lib.join l sep ++ sep) ++ y := by
  cases l with
  | nil => simp [Lib.join_one]
  | cons x r =>
    rw [List.cons_append, Lib.join_cons, Lib.join_cons]
    simp [Lib.joinTail, List.append_assoc]
/-- the first k numbers of a list, in decimal with commas between them -/
def tL (xs : List Int) (k : Nat) : List UInt8 := Lib.join ((List.range k).map fun j => Lib.decDigits (nth xs j).toNat) [44]
def txB (xs : List Int) (k : Nat) : ByteArray := ⟨(tL xs k).toArray⟩
theorem txB_zero (xs : List Int) : txB xs 0 = ⟨#[]⟩ := rfl
theorem tL_one (xs : List Int) : tL xs 1 = Lib.decDigits (nth xs 0).toNat := by simp [tL, Lib.join_one]
theorem tL_succ (xs : List Int) {k : Nat} (h : 0 < k) : tL xs (k+1) = tL xs k ++ [44] ++ Lib.decDigits (nth xs k).toNat := by
  rw [tL, List.range_succ, List.map_append, List.map_cons, List.map_nil, join_snoc, if_neg (by simp; omega)]
  rfl
theorem txB_one (xs : List Int) : (⟨#[]⟩ : ByteArray) ++ decB (nth xs 0).toNat = txB xs 1 := by
  rw [txB, tL_one, decB, ByteArray.mk_append_mk]; simp
theorem txB_comma (xs : List Int) {k : Nat} (h : 0 < k) : (txB xs k ++ ⟨#[44]⟩) ++ decB (nth xs k).toNat = txB xs (k+1) := by
  rw [txB, txB, tL_succ xs h, decB, ByteArray.mk_append_mk, ByteArray.mk_append_mk]
theorem txB_size {xs : List Int} {c : Nat} (hc : ∀ j, j < xs.length → (nth xs j).toNat ≤ c) : ∀ {k : Nat}, k ≤ xs.length → (txB xs k).size ≤ k * (c + 2)
  | 0, _ => by simp [txB, tL, Lib.join_nil, ByteArray.size]
  | k+1, hk => by
    have ih := txB_size hc (k := k) (by omega)
    have h1 := decB_size (nth xs k).toNat
    have h2 := hc k (by omega)
    have h3 : (k + 1) * (c + 2) = k * (c + 2) + (c + 2) := Nat.succ_mul k (c + 2)
    by_cases h0 : 0 < k
    · rw [← txB_comma xs h0, ByteArray.size_append, ByteArray.size_append]
      have : (⟨#[44]⟩ : ByteArray).size = 1 := rfl
      omega
    · obtain rfl : k = 0 := by omega
      rw [← txB_one, ByteArray.size_append]
      have : (⟨#[]⟩ : ByteArray).size = 0 := rfl
      simp at h1 ⊢
      omega

set_option maxRecDepth 100000 in
theorem asText_any (a : Option Addr) (xs : List Int) (cap : Nat) (w : World) (hx : Rd w a xs) (hl : xs.length ≤ 1000) (hb : ∀ j, j < xs.length → 0 ≤ nth xs j ∧ nth xs j ≤ 1000000) :
    Calls Tryd.prog 14 #[.slice a xs.length cap] w fun e w' => e = .returned (.string (txB xs xs.length)) ∧ Below w.heap.size w w' := by
  have HSZ : Hid (∀ k, k ≤ xs.length → (txB xs k).size ≤ k * 1000002) := fun k hk => txB_size (c := 1000000) (fun j hj => by have := hb j hj; omega) hk
  have HB := Lib.hid hb
  clear hb
  go_enter Tryd.func14, Tryd.ntmps14
  go_wp2_with fail
  go_loopw [3, 8] (fun s i wr => ∃ k : Nat, k ≤ xs.length ∧ i = .int .i64 k ∧ s = .string (txB xs k) ∧ Below w.heap.size w wr) (fun _ i _ => xs.length - (intOf i).toNat)
  case atStart => exact ⟨0, Nat.zero_le _, rfl, rfl, Below.refl _ _⟩
  case round =>
    obtain ⟨k, hk, rfl, rfl, hbw⟩ := hrel
    have hsz := HSZ.out k hk
    by_cases hlt : k < xs.length
    · have hxr := hx.below hbw
      obtain ⟨b, off, rfl, hbl, hc⟩ := hxr.cell k hlt
      have ⟨x0, x1⟩ := HB.out k hlt
      have hsz1 := HSZ.out (k+1) (by omega)
      obtain ⟨X, hX⟩ := Int.eq_ofNat_of_zero_le x0
      have hdz := decB_size X
      rw [hX] at hc
      have hXn : (nth xs k).toNat = X := by rw [hX]; rfl
      have hX1 : X ≤ 1000000 := by omega
      by_cases h0 : 0 < k
      · have h0' : (0 : Int) < (k : Int) := by omega
        have hadd1 : ∀ W : World, (Op.stringOp .add (txB xs k) ⟨#[44]⟩).run Tryd.prog W = .ok (.string (txB xs k ++ ⟨#[44]⟩)) W := fun W => run_string_add_sum W _ _ (by
          have : (⟨#[44]⟩ : ByteArray).size = 1 := rfl
          omega)
        have hadd2 : ∀ W : World, (Op.stringOp .add (txB xs k ++ ⟨#[44]⟩) (decB X)).run Tryd.prog W = .ok (.string (txB xs (k+1))) W := fun W => by
          rw [run_string_add_sum W _ _ (by
            rw [ByteArray.size_append]
            have : (⟨#[44]⟩ : ByteArray).size = 1 := rfl
            omega), ← hXn, txB_comma xs h0]
        obtain ⟨S0, hS0⟩ : ∃ S0, S0 = txB xs k := ⟨_, rfl⟩
        obtain ⟨S1, hS1⟩ : ∃ S1, S1 = txB xs k ++ (⟨#[44]⟩ : ByteArray) := ⟨_, rfl⟩
        rw [← hS1] at hadd1 hadd2
        rw [← hS0] at hadd1 ⊢
        clear hS0 hS1 hsz hsz1 hdz hX hXn x0 x1
        go_wp2_with fail
        refine (l1Num_any X _ (by omega)).mono ?_
        rintro e w1 ⟨rfl, hb1⟩
        go_wp2_with fail
        go_roundw
        case rel => exact ⟨k + 1, by omega, by go_num, rfl, hbw.trans (hb1.mono hbw.size)⟩
        case measure => simp [intOf]; omega
      · obtain rfl : k = 0 := by omega
        have hadd2 : ∀ W : World, (Op.stringOp .add ⟨#[]⟩ (decB X)).run Tryd.prog W = .ok (.string (txB xs 1)) W := fun W => by
          rw [run_string_add_sum W _ _ (by
            have : (⟨#[]⟩ : ByteArray).size = 0 := rfl
            omega), ← hXn, txB_one]
        rw [txB_zero]
        rw [Nat.add_zero] at hc
        clear hsz hsz1 hdz hX hXn x0 x1
        go_wp2_with fail
        refine (l1Num_any X _ (by omega)).mono ?_
        rintro e w1 ⟨rfl, hb1⟩
        go_wp2_with fail
        go_roundw
        case rel => exact ⟨1, by omega, by go_num, rfl, hbw.trans (hb1.mono hbw.size)⟩
        case measure => simp [intOf]; omega
    · obtain rfl : k = xs.length := by omega
      go_wp2_with fail
      go_ret
      exact ⟨rfl, hbw⟩

def inB (n lo hi : Int) : Bool := decide (lo ≤ n) && decide (n ≤ hi)
theorem inB_iff {n lo hi : Int} : inB n lo hi = true ↔ lo ≤ n ∧ n ≤ hi := by simp [inB]
theorem inB_no {n lo hi : Int} : inB n lo hi = false ↔ n < lo ∨ hi < n := by
  rw [← Bool.not_eq_true, inB_iff]
  omega

theorem OwnI.capLe {w : World} {B n cap : Nat} {a : Option Addr} {xs : List Int} (h : OwnI w B (.slice a n cap) xs) : n ≤ cap := by
  rcases h.2 with ⟨e, _⟩ | ⟨g, cap', cur, e, _, _, hc, _⟩
  · simp only [Value.slice.injEq] at e
    omega
  · simp only [Value.slice.injEq] at e
    omega
theorem Rd.take {w : World} {a : Option Addr} {xs : List Int} (h : Rd w a xs) (k : Nat) : Rd w a (xs.take k) :=
  ⟨Nat.le_trans (by rw [List.length_take]; exact Nat.min_le_right _ _) h.len, fun j hj => by
    have hj' : j < xs.length ∧ j < k := by rw [List.length_take] at hj; omega
    obtain ⟨b, off, e, hl, hc⟩ := h.cell j hj'.1
    refine ⟨b, off, e, hl, hc.trans ?_⟩
    simp [nth, List.getD_eq_getElem?_getD, List.getElem?_take, hj'.2]⟩

/-- is the number at i behind an ascent? -/
def riseB (xs : List Int) (i : Nat) : Bool := decide (0 < i) && decide (nth xs (i-1) < nth xs i)
theorem riseB_iff {xs : List Int} {i : Nat} : riseB xs i = true ↔ 0 < i ∧ nth xs (i-1) < nth xs i := by simp [riseB]
/-- the ascents among the first k numbers -/
def ascTo (xs : List Int) : Nat → Nat
  | 0 => 0
  | k+1 => ascTo xs k + (if riseB xs k then 1 else 0)
theorem ascTo_le (xs : List Int) : ∀ k, ascTo xs k ≤ k - 1
  | 0 => by simp [ascTo]
  | 1 => by simp [ascTo, riseB]
  | k+2 => by
    have := ascTo_le xs (k+1)
    rw [ascTo]; split <;> omega
theorem ascTo_yes {xs : List Int} {k : Nat} (h : riseB xs k = true) : ascTo xs (k+1) = ascTo xs k + 1 := by simp [ascTo, h]
theorem ascTo_no {xs : List Int} {k : Nat} (h : riseB xs k = false) : ascTo xs (k+1) = ascTo xs k := by simp [ascTo, h]
/-- the greatest number that may stand at k -/
def bndTo (xs : List Int) (k : Nat) : Int := if k = 0 then 0 else (ascTo xs k : Int) + 1
theorem bndTo_zero (xs : List Int) : bndTo xs 0 = 0 := rfl
theorem bndTo_pos (xs : List Int) {k : Nat} (h : 0 < k) : bndTo xs k = (ascTo xs k : Int) + 1 := by simp [bndTo]; omega
theorem bndTo_le (xs : List Int) (k : Nat) : 0 ≤ bndTo xs k ∧ bndTo xs k ≤ (k : Int) := by
  have := ascTo_le xs k
  unfold bndTo
  split <;> omega
def ascOk (xs : List Int) (k : Nat) : Bool := inB (nth xs k) 0 (bndTo xs k)
/-- is it an ascent sequence? -/
def ascB (xs : List Int) : Bool := decide (xs.length ≤ 12) && (List.range xs.length).all (ascOk xs)
theorem ascB_iff {xs : List Int} : ascB xs = true ↔ xs.length ≤ 12 ∧ ∀ k, k < xs.length → ascOk xs k = true := by simp [ascB]
theorem ascB_no {xs : List Int} {k : Nat} (hk : k < xs.length) (h : ascOk xs k = false) : ascB xs = false := by
  rw [← Bool.not_eq_true, ascB_iff]
  rintro ⟨_, h2⟩
  rw [h2 k hk] at h
  cases h
theorem ascB_long {xs : List Int} (h : ¬ xs.length ≤ 12) : ascB xs = false := by
  rw [← Bool.not_eq_true, ascB_iff]
  exact fun h2 => h h2.1
theorem ascB_nth {xs : List Int} (h : ascB xs = true) {k : Nat} (hk : k < xs.length) : 0 ≤ nth xs k ∧ nth xs k ≤ bndTo xs k := inB_iff.1 ((ascB_iff.1 h).2 k hk)
theorem ascB_small {xs : List Int} (h : ascB xs = true) {k : Nat} (hk : k < xs.length) : 0 ≤ nth xs k ∧ nth xs k ≤ 11 := by
  have h1 := ascB_nth h hk
  have h2 := bndTo_le xs k
  have h3 := (ascB_iff.1 h).1
  omega
/-- how far the list has come -/
def clLast (xs : List Int) (k : Nat) : Int := if k = 0 then -1 else nth xs (k-1)
def clAsc (xs : List Int) (k : Nat) : Int := if k = 0 then -1 else (ascTo xs k : Int)
theorem clAsc_bnd (xs : List Int) (k : Nat) : clAsc xs k + 1 = bndTo xs k := by unfold clAsc bndTo; split <;> omega
theorem clLast_succ (xs : List Int) (k : Nat) : clLast xs (k+1) = nth xs k := by simp [clLast]
/-- the climb with one more number -/
def byA (last asc n : Int) : Int := if last < n then asc + 1 else asc
theorem clAsc_succ {xs : List Int} {k : Nat} (h0 : 0 ≤ nth xs k) : byA (clLast xs k) (clAsc xs k) (nth xs k) = clAsc xs (k+1) := by
  by_cases hk : k = 0
  · subst hk
    have : (-1 : Int) < nth xs 0 := by omega
    simp [byA, clLast, clAsc, ascTo, riseB, this]
  · simp only [byA, clLast, clAsc, hk, if_false, ascTo, Nat.succ_ne_zero, riseB]
    by_cases h : nth xs (k-1) < nth xs k
    · simp [h, show 0 < k by omega]
    · simp [h]
theorem clAsc_le (xs : List Int) (k : Nat) : -1 ≤ clAsc xs k ∧ clAsc xs k < max (k : Int) 0 + 1 := by
  have := ascTo_le xs k
  unfold clAsc
  split <;> omega
theorem clAsc_lt (xs : List Int) (k : Nat) : -1 ≤ clAsc xs k ∧ clAsc xs k ≤ (k : Int) := by
  have := ascTo_le xs k
  unfold clAsc
  split <;> omega

theorem asAscents_q (a : Option Addr) (xs : List Int) (n cap : Nat) (w : World) (hx : Rd w a xs) (hn : n ≤ xs.length) :
    Calls Tryd.prog 30 #[.slice a n cap] w fun e w' => e = .returned (.int .i64 (ascTo xs n : Nat)) ∧ ∃ m, w' = w.drewN m := by
  have hlen := hx.len
  have HA : Hid (∀ k, ascTo xs k ≤ k - 1) := ascTo_le xs
  go_enter Tryd.func30, Tryd.ntmps30
  go_wp2_with fail
  go_loopw [3, 4] (fun s i wr => ∃ k : Nat, 1 ≤ k ∧ k ≤ max 1 n ∧ i = .int .i64 k ∧ s = .int .i64 (ascTo xs k : Nat) ∧ ∃ m, wr = w.drewN m) (fun _ i _ => n + 1 - (intOf i).toNat)
  case atStart => exact ⟨1, by omega, by omega, rfl, rfl, 0, rfl⟩
  case round =>
    obtain ⟨k, hk1, hk, rfl, rfl, m0, rfl⟩ := hrel
    by_cases hlt : k < n
    · obtain ⟨b, off, rfl, hbl, hc⟩ := hx.cell k (by omega)
      obtain ⟨b', off', e', hbl', hc'⟩ := hx.cell (k-1) (by omega)
      simp only [Option.some.injEq, Addr.mk.injEq, and_true] at e'
      obtain ⟨rfl, rfl⟩ := e'
      have hak := HA.out k
      have hcast : IntKind.i64.wrap ((k : Int) - 1) = ((k - 1 : Nat) : Int) := by rw [i64_wrap, IntWalk.wrap64_in _ ⟨by omega, by omega⟩]; omega
      cases hr : riseB xs k
      · have H1 := Lib.hid (ascTo_no hr)
        have hge : ¬ nth xs (k-1) < nth xs k := by
          intro h; rw [riseB_iff.2 ⟨by omega, h⟩] at hr; cases hr
        clear hr
        go_wp2_with fail
        go_quiet (fail)
        go_wp2_with fail
        go_roundw
        case rel => exact ⟨k + 1, by omega, by omega, by go_num, by rw [H1.out], _, rfl⟩
        case measure => simp [intOf]; omega
      · have H1 := Lib.hid (ascTo_yes hr)
        have hge : nth xs (k-1) < nth xs k := (riseB_iff.1 hr).2
        clear hr
        go_wp2_with fail
        go_quiet (fail)
        go_wp2_with fail
        go_roundw
        case rel => exact ⟨k + 1, by omega, by omega, by go_num, by rw [H1.out]; go_num, _, rfl⟩
        case measure => simp [intOf]; omega
    · have HE : Hid (ascTo xs k = ascTo xs n) := by
        by_cases h0 : n = 0
        · obtain rfl : k = 1 := by omega
          rw [Hid, h0]; rfl
        · obtain rfl : k = n := by omega
          rfl
      go_wp2_with fail
      go_ret
      exact ⟨ret_int (by rw [HE.out]), m0, rfl⟩
theorem asAscents_any (a : Option Addr) (xs : List Int) (n cap : Nat) (w : World) (hx : Rd w a xs) (hn : n ≤ xs.length) :
    Calls Tryd.prog 30 #[.slice a n cap] w fun e w' => e = .returned (.int .i64 (ascTo xs n : Nat)) ∧ Below w.heap.size w w' :=
  (asAscents_q a xs n cap w hx hn).mono (fun e w' ⟨h1, m, h2⟩ => ⟨h1, by rw [h2]; exact Joins.below_draws _ _ _⟩)

theorem asBound_q (a : Option Addr) (xs : List Int) (n cap : Nat) (w : World) (hx : Rd w a xs) (hn : n ≤ xs.length) :
    Calls Tryd.prog 21 #[.slice a n cap] w fun e w' => e = .returned (.int .i64 (bndTo xs n)) ∧ ∃ m, w' = w.drewN m := by
  have hlen := hx.len
  by_cases h0 : n = 0
  · subst h0
    go_enter Tryd.func21, Tryd.ntmps21
    go_wp2_with fail
    go_ret
    exact ⟨rfl, 0, rfl⟩
  · have H1 : Hid (bndTo xs n = (ascTo xs n : Int) + 1) := bndTo_pos xs (by omega)
    have hal := ascTo_le xs n
    go_enter Tryd.func21, Tryd.ntmps21
    go_wp2_with fail
    refine (asAscents_q _ xs _ _ _ hx hn).mono ?_
    rintro e w1 ⟨rfl, m, rfl⟩
    go_wp2_with fail
    go_ret
    exact ⟨ret_int (by rw [H1.out]), m, rfl⟩
theorem asBound_any (a : Option Addr) (xs : List Int) (n cap : Nat) (w : World) (hx : Rd w a xs) (hn : n ≤ xs.length) :
    Calls Tryd.prog 21 #[.slice a n cap] w fun e w' => e = .returned (.int .i64 (bndTo xs n)) ∧ Below w.heap.size w w' :=
  (asBound_q a xs n cap w hx hn).mono (fun e w' ⟨h1, m, h2⟩ => ⟨h1, by rw [h2]; exact Joins.below_draws _ _ _⟩)
theorem asBound_is {a : Option Addr} {xs : List Int} {n cap : Nat} {w : World} (hx : Rd w a xs) (hn : n ≤ xs.length) {b : Int} (hb : bndTo xs n = b) (m : Nat) :
    Calls Tryd.prog 21 #[.slice a n cap] (w.drewN m) fun e w' => e = .returned (.int .i64 b) ∧ ∃ k, w' = w.drewN k :=
  Calls.quiet_of ((asBound_q a xs n cap (w.drewN m) (hx.below (Joins.below_draws _ _ _)) hn).mono (fun e w' hh => ⟨by rw [← hb]; exact hh.1, hh.2⟩))

theorem l1In_any (n lo hi : Int) (w : World) :
    Calls Tryd.prog 20 #[.int .i64 n, .int .i64 lo, .int .i64 hi] w fun e w' => e = .returned (.bool (inB n lo hi)) ∧ w = w' := by
  go_enter Tryd.func20, Tryd.ntmps20
  go_wp2
  all_goals (go_ret; exact ⟨ret_bool (by simp [inB]; try omega), rfl⟩)
theorem l1In_is {n lo hi : Int} {b : Bool} (h : inB n lo hi = b) (w : World) (m : Nat) :
    Calls Tryd.prog 20 #[.int .i64 n, .int .i64 lo, .int .i64 hi] (w.drewN m) fun e w' => e = .returned (.bool b) ∧ ∃ k, w' = w.drewN k :=
  Calls.quiet_of_same ((l1In_any n lo hi (w.drewN m)).mono (fun e w' hh => ⟨by rw [← h]; exact hh.1, hh.2.symm⟩))

theorem asGood_any (a : Option Addr) (xs : List Int) (cap : Nat) (w : World) (hx : Rd w a xs) (hcap : xs.length ≤ cap) :
    Calls Tryd.prog 13 #[.slice a xs.length cap] w fun e w' => e = .returned (.bool (ascB xs)) ∧ Below w.heap.size w w' := by
  have hlen := hx.len
  by_cases hl : xs.length ≤ 12
  · go_enter Tryd.func13, Tryd.ntmps13
    go_wp2_with fail
    go_loopw [10] (fun i wr => ∃ k : Nat, k ≤ xs.length ∧ i = .int .i64 k ∧ (∀ j, j < k → ascOk xs j = true) ∧ Below w.heap.size w wr) (fun i _ => xs.length - (intOf i).toNat)
    case atStart => exact ⟨0, Nat.zero_le _, rfl, fun j hj => by omega, Below.refl _ _⟩
    case round =>
      obtain ⟨k, hk, rfl, hall, hb⟩ := hrel
      have HA := Lib.hid hall
      clear hall
      by_cases hlt : k < xs.length
      · have hxr := hx.below hb
        obtain ⟨b, off, rfl, hbl, hc⟩ := hxr.cell k hlt
        have k1 : (k : Int) ≤ (cap : Int) := by omega
        have k0 : (0 : Int) ≤ (k : Int) := by omega
        cases hin : ascOk xs k
        · have HO : Hid (ascB xs = false) := ascB_no hlt hin
          have hin' : inB (nth xs k) 0 (bndTo xs k) = false := hin
          have HI := Lib.hid hin'
          clear hin hin'
          go_wp2_with fail
          refine (asBound_any _ xs k _ _ hxr hk).mono ?_
          rintro e w1 ⟨rfl, hb1⟩
          go_wp2_with fail
          refine (l1In_any _ _ _ _).mono ?_
          rintro e w' ⟨rfl, rfl⟩
          rw [HI.out]
          go_wp2_with fail
          go_ret
          exact ⟨ret_bool HO.out.symm, hb.trans (hb1.mono hb.size)⟩
        · have hin' : inB (nth xs k) 0 (bndTo xs k) = true := hin
          have HI := Lib.hid hin'
          have HM := Lib.hid hin
          clear hin hin'
          go_wp2_with fail
          refine (asBound_any _ xs k _ _ hxr hk).mono ?_
          rintro e w1 ⟨rfl, hb1⟩
          go_wp2_with fail
          refine (l1In_any _ _ _ _).mono ?_
          rintro e w' ⟨rfl, rfl⟩
          rw [HI.out]
          go_wp2_with fail
          go_roundw
          case rel =>
            refine ⟨k + 1, by omega, by go_num, fun j hj => ?_, hb.trans (hb1.mono hb.size)⟩
            by_cases e : j = k
            · rw [e]; exact HM.out
            · exact HA.out j (by omega)
          case measure => simp [intOf]; omega
      · obtain rfl : k = xs.length := by omega
        have HO : Hid (ascB xs = true) := ascB_iff.2 ⟨hl, HA.out⟩
        go_wp2_with fail
        go_ret
        exact ⟨ret_bool HO.out.symm, hb⟩
  · have HO := Lib.hid (ascB_long hl)
    go_enter Tryd.func13, Tryd.ntmps13
    go_wp2_with fail
    go_ret
    exact ⟨ret_bool HO.out.symm, Below.refl _ _⟩

def atS (xs : List Int) : ByteArray := if ascB xs then txB xs xs.length else ⟨#[]⟩
set_option maxRecDepth 100000 in
theorem sAText_any (a : Option Addr) (xs : List Int) (cap : Nat) (w : World) (hx : Rd w a xs) (hcap : xs.length ≤ cap) :
    Calls Tryd.prog 5 #[.slice a xs.length cap] w fun e w' => e = .returned (.tuple #[.string (atS xs), .bool (ascB xs)]) ∧ Below w.heap.size w w' := by
  cases hA : ascB xs
  · have HA := Lib.hid hA
    have HR : Hid (atS xs = ⟨#[]⟩) := by simp [Hid, atS, hA]
    clear hA
    go_enter Tryd.func5, Tryd.ntmps5
    go_wp2_with fail
    refine (asGood_any _ _ _ _ hx hcap).mono ?_
    rw [HA.out]
    rintro e w1 ⟨rfl, hb1⟩
    go_wp2_with fail
    refine bodyPost_ret (v := .tuple #[.string ⟨#[]⟩, .bool false]) (by simp [results, Tryd.results5, go_sem]) rfl ?_
    exact ⟨by rw [HR.out], hb1⟩
  · have HA := Lib.hid hA
    have HR : Hid (atS xs = txB xs xs.length) := by simp [Hid, atS, hA]
    have h12 := (ascB_iff.1 hA).1
    clear hA
    go_enter Tryd.func5, Tryd.ntmps5
    go_wp2_with fail
    refine (asGood_any _ _ _ _ hx hcap).mono ?_
    rw [HA.out]
    rintro e w1 ⟨rfl, hb1⟩
    go_wp2_with fail
    refine (asText_any _ _ _ _ (hx.below hb1) (by omega) (fun j hj => by have := ascB_small HA.out hj; omega)).mono ?_
    rintro e w2 ⟨rfl, hb2⟩
    go_wp2_with fail
    refine bodyPost_ret (v := .tuple #[.string (txB xs xs.length), .bool true]) (by simp [results, Tryd.results5, go_sem]) rfl ?_
    exact ⟨by rw [HR.out], hb1.trans (hb2.mono hb1.size)⟩

def allB (xs : List Int) (lo hi : Int) : Bool := xs.all (fun x => inB x lo hi)
theorem allB_take (xs : List Int) (lo hi : Int) (k : Nat) (h : k < xs.length) : allB (xs.take (k+1)) lo hi = (allB (xs.take k) lo hi && inB (nth xs k) lo hi) := by
  simp only [allB]
  rw [List.take_succ_eq_append_getElem h, List.all_append]
  simp [nth, h]
theorem allB_false {xs : List Int} {lo hi : Int} {k : Nat} (h : k < xs.length) (h1 : inB (nth xs k) lo hi = false) : allB xs lo hi = false := by
  simp only [allB, List.all_eq_false]
  exact ⟨xs[k], List.getElem_mem h, by simpa [nth, h] using h1⟩
theorem allB_nth {xs : List Int} {lo hi : Int} (h : allB xs lo hi = true) {k : Nat} (hk : k < xs.length) : lo ≤ nth xs k ∧ nth xs k ≤ hi := by
  simp only [allB, List.all_eq_true] at h
  have := inB_iff.1 (h _ (List.getElem_mem hk))
  rwa [← nth_get xs k hk] at this

/-- is it a relation? -/
def relB (n : Int) (xs : List Int) : Bool := inB n 0 10 && decide ((xs.length : Int) = n) && allB xs 0 (2 ^ n.toNat - 1)
theorem relB_iff {n : Int} {xs : List Int} : relB n xs = true ↔ (0 ≤ n ∧ n ≤ 10) ∧ (xs.length : Int) = n ∧ allB xs 0 (2 ^ n.toNat - 1) = true := by
  simp [relB, inB_iff, and_assoc]
theorem pow10 {n : Nat} (h : n ≤ 10) : (1 : Int) ≤ 2 ^ n ∧ (2 : Int) ^ n ≤ 1024 := by
  have h1 : 2 ^ n ≤ 2 ^ 10 := Nat.pow_le_pow_right (by omega) h
  have h2 : 1 ≤ 2 ^ n := Nat.one_le_two_pow
  have h3 : ((2 ^ n : Nat) : Int) = (2 : Int) ^ n := by simp
  omega
theorem full_eq {n : Int} (h0 : 0 ≤ n) (h1 : n ≤ 10) : wrap64 (wrap64 (2 ^ n.toNat) - 1) = 2 ^ n.toNat - 1 := by
  have h2 := pow10 (n := n.toNat) (by omega)
  generalize (2 : Int) ^ n.toNat = p at *
  rw [IntWalk.wrap64_in p ⟨by omega, by omega⟩, IntWalk.wrap64_in _ ⟨by omega, by omega⟩]
structure RelP (n : Int) (xs : List Int) : Prop where
  n0 : 0 ≤ n
  n1 : n ≤ 10
  len : (xs.length : Int) = n
  pos : ∀ k, k < xs.length → 0 ≤ nth xs k
  lt : ∀ k, k < xs.length → nth xs k < 2 ^ xs.length
  small : ∀ k, k < xs.length → nth xs k < 1024
theorem relB_p {n : Int} {xs : List Int} (h : relB n xs = true) : RelP n xs := by
  obtain ⟨⟨h0, h1⟩, h2, h3⟩ := relB_iff.1 h
  have e : n.toNat = xs.length := by omega
  rw [e] at h3
  have hp := pow10 (n := xs.length) (by omega)
  exact ⟨h0, h1, h2, fun k hk => (allB_nth h3 hk).1, fun k hk => by have := (allB_nth h3 hk).2; omega, fun k hk => by have := (allB_nth h3 hk).2; omega⟩

/-- one step of the closing: what is above k goes to i, if k is above i -/
def clStep (xs : List Int) (k i : Nat) : List Int := if hasB (nth xs i) k then xs.set i (((nth xs i).toNat ||| (nth xs k).toNat : Nat) : Int) else xs
def clRow (xs : List Int) (k : Nat) : Nat → List Int
  | 0 => xs
  | i+1 => clStep (clRow xs k i) k i
def clAll (xs : List Int) : Nat → List Int
  | 0 => xs
  | k+1 => clRow (clAll xs k) k xs.length
theorem clStep_len (xs : List Int) (k i : Nat) : (clStep xs k i).length = xs.length := by
  unfold clStep; split <;> simp
theorem clRow_len (xs : List Int) (k : Nat) : ∀ i, (clRow xs k i).length = xs.length
  | 0 => rfl
  | i+1 => by rw [clRow, clStep_len, clRow_len xs k i]
theorem clAll_len (xs : List Int) : ∀ k, (clAll xs k).length = xs.length
  | 0 => rfl
  | k+1 => by rw [clAll, clRow_len, clAll_len xs k]
/-- all numbers of a list are sets below 1024 -/
def Small (xs : List Int) : Prop := ∀ k, k < xs.length → 0 ≤ nth xs k ∧ nth xs k < 1024
theorem nth_set {xs : List Int} {i j : Nat} {x : Int} (hi : i < xs.length) : nth (xs.set i x) j = if i = j then x else nth xs j := by
  simp only [nth, List.getD_eq_getElem?_getD, List.getElem?_set]
  by_cases h : i = j
  · subst h; simp [hi]
  · simp [h]
theorem clStep_small {xs : List Int} (h : Small xs) {k i : Nat} (hk : k < xs.length) (hi : i < xs.length) : Small (clStep xs k i) := by
  unfold clStep
  split
  · intro j hj
    rw [nth_set hi]
    have h1 := h i hi
    have h2 := h k hk
    split
    · have : (nth xs i).toNat ||| (nth xs k).toNat < 2 ^ 10 := or_lt (by omega) (by omega)
      omega
    · exact h j (by simpa using hj)
  · exact h
theorem clRow_small {xs : List Int} (h : Small xs) {k : Nat} (hk : k < xs.length) : ∀ i, i ≤ xs.length → Small (clRow xs k i)
  | 0, _ => h
  | i+1, hi => clStep_small (clRow_small h hk i (by omega)) (by rw [clRow_len]; exact hk) (by rw [clRow_len]; omega)
theorem clAll_small {xs : List Int} (h : Small xs) : ∀ k, k ≤ xs.length → Small (clAll xs k)
  | 0, _ => h
  | k+1, hk => clRow_small (clAll_small h k (by omega)) (by rw [clAll_len]; omega) _ (by rw [clAll_len]; omega)
theorem RelP.sm {n : Int} {xs : List Int} (h : RelP n xs) : Small xs := fun k hk => ⟨h.pos k hk, h.small k hk⟩
theorem set_ints (xs : List Int) (i : Nat) (x : Int) : (xs.map (Value.int .i64)).set i (.int .i64 x) = (xs.set i x).map (Value.int .i64) := by
  rw [List.map_set]
/-- a store into an owned row -/
theorem OwnI.put {w : World} {B g n cap : Nat} {xs : List Int} (h : OwnI w B (.slice (some ⟨g, 0, none⟩) n cap) xs) (hn : n = xs.length) (i : Nat) (x : Int) :
    OwnI (w.setCell ⟨g, i, none⟩ (.int .i64 x)) B (.slice (some ⟨g, 0, none⟩) n cap) (xs.set i x) ∧ w.grownBy (w.setCell ⟨g, i, none⟩ (.int .i64 x)) (some g) := by
  subst hn
  have hst := World.ownsRow.stored h i (.int .i64 x)
  rw [set_ints] at hst
  refine ⟨?_, hst.2⟩
  unfold OwnI
  rw [List.length_set]
  exact hst.1
theorem OwnI.at' {w : World} {B g n cap : Nat} {xs : List Int} (h : OwnI w B (.slice (some ⟨g, 0, none⟩) n cap) xs) (hn : n = xs.length) {i : Nat} (hi : i < xs.length) :
    w.cell? ⟨g, i, none⟩ = some (.int .i64 (nth xs i)) ∧ w.frozen? ⟨g, i, none⟩ = false := by
  subst hn
  refine ⟨?_, World.ownsRow.frozenAt h i⟩
  rw [World.ownsRow.cellAt h i (by omega)]
  simp [nth, hi]
theorem OwnI.head {w : World} {B n cap : Nat} {a : Option Addr} {xs : List Int} (h : OwnI w B (.slice a n cap) xs) (hp : 0 < xs.length) : ∃ g, a = some ⟨g, 0, none⟩ ∧ B ≤ g ∧ g < w.heap.size := by
  rcases h.2 with ⟨e, h0⟩ | ⟨g, c, cur, e, hb, hg, _⟩
  · omega
  · simp only [Value.slice.injEq] at e
    exact ⟨g, e.1, hb, (Array.getElem?_eq_some_iff.1 hg).1⟩
def cloN (n : Int) (xs : List Int) : Int := if relB n xs then n else 0
def cloL (n : Int) (xs : List Int) : List Int := if relB n xs then clAll xs xs.length else []
theorem cloL_len (n : Int) (xs : List Int) : (cloL n xs).length ≤ 1048576 := by
  unfold cloL
  split
  · rename_i h
    have hp := relB_p h
    have := hp.len
    have := hp.n1
    rw [clAll_len]
    omega
  · simp

/-- the list of f 0, .., f (k - 1) -/
def fmap (f : Nat → Int) (k : Nat) : List Int := (List.range k).map f
theorem fmap_len (f : Nat → Int) (k : Nat) : (fmap f k).length = k := by simp [fmap]
theorem fmap_nth (f : Nat → Int) {k i : Nat} (h : i < k) : nth (fmap f k) i = f i := by simp [nth, fmap, h]
theorem fmap_succ (f : Nat → Int) (k : Nat) : fmap f (k+1) = fmap f k ++ [f k] := by simp [fmap, List.range_succ]
/-- one store more into a row that was made -/
theorem fill_step (f : Nat → Int) (m k : Nat) (h : k < m) :
    ((fmap f k ++ List.replicate (m - k) (0:Int)).map (Value.int .i64)).set k (.int .i64 (f k)) = (fmap f (k+1) ++ List.replicate (m - (k+1)) (0:Int)).map (Value.int .i64) := by
  apply List.ext_getElem?
  intro j
  rw [List.getElem?_set]
  by_cases hj : k = j
  · subst hj
    rw [if_pos rfl, if_pos (by simp [fmap_len]; omega), List.getElem?_map, List.getElem?_append_left (by rw [fmap_len]; omega)]
    simp [fmap]
  · simp only [hj, if_false, List.getElem?_map, List.getElem?_append, fmap_len, List.getElem?_replicate]
    by_cases h1 : j < k
    · have h2 : j < k + 1 := by omega
      simp [h1, h2, fmap]
    · have h2 : ¬ j < k + 1 := by omega
      have h3 : j - k < m - k ↔ j - (k+1) < m - (k+1) := by omega
      simp [h1, h2, h3]
theorem fill_end (f : Nat → Int) (m : Nat) : fmap f m ++ List.replicate (m - m) (0:Int) = fmap f m := by simp
/-- the row that a make of m integers has made -/
theorem made_ints {w1 : World} {B : Nat} {v : Value} {m : Nat} (f : Nat → Int) (h : w1.ownsRow B 3 1 v m (madeCells (Value.int .i64 0).cells (m * 1)).toList) :
    w1.ownsRow B 3 1 v m ((fmap f 0 ++ List.replicate (m - 0) (0:Int)).map (Value.int .i64)) := by
  simpa [Value.cells, toList_madeCells_one, fmap] using h

/-- a row of m integers of which the first k are filled, f 0 .. -/
def rowF (f : Nat → Int) (m k : Nat) : List Int := fmap f k ++ List.replicate (m - k) 0
theorem rowF_len (f : Nat → Int) {m k : Nat} (h : k ≤ m) : (rowF f m k).length = m := by simp [rowF, fmap_len]; omega
theorem rowF_set (f : Nat → Int) {m k : Nat} (h : k < m) : (rowF f m k).set k (f k) = rowF f m (k+1) := by
  apply List.ext_getElem?
  intro j
  rw [List.getElem?_set]
  by_cases hj : k = j
  · subst hj
    rw [if_pos rfl, if_pos (by rw [rowF_len f (by omega)]; exact h), rowF, List.getElem?_append_left (by rw [fmap_len]; omega)]
    simp [fmap]
  · simp only [hj, if_false, rowF, List.getElem?_append, fmap_len, List.getElem?_replicate]
    by_cases h1 : j < k
    · have h2 : j < k + 1 := by omega
      simp [h1, h2, fmap]
    · have h2 : ¬ j < k + 1 := by omega
      have h3 : j - k < m - k ↔ j - (k+1) < m - (k+1) := by omega
      simp [h1, h2, h3]
theorem rowF_zero (f : Nat → Int) {m k : Nat} (h : k < m) : (rowF f m k).set k 0 = rowF f m k := by
  apply List.ext_getElem?
  intro j
  rw [List.getElem?_set]
  by_cases hj : k = j
  · subst hj
    rw [if_pos rfl, if_pos (by rw [rowF_len f (by omega)]; exact h), rowF, List.getElem?_append_right (by rw [fmap_len]; omega)]
    rw [fmap_len, Nat.sub_self, List.getElem?_replicate, if_pos (by omega)]
  · simp [hj]
theorem rowF_end (f : Nat → Int) (m : Nat) : rowF f m m = fmap f m := by simp [rowF]
theorem made_row {w1 : World} {B : Nat} {v : Value} {m : Nat} (f : Nat → Int) (h : w1.ownsRow B 3 1 v m (madeCells (Value.int .i64 0).cells (m * 1)).toList) : OwnI w1 B v (rowF f m 0) := by
  unfold OwnI
  rw [rowF_len f (Nat.zero_le _)]
  simpa [Value.cells, toList_madeCells_one, fmap, rowF] using h

theorem below_grown_none {w w' : World} {B : Nat} (h : w.grownBy w' none) (hB : B ≤ w.heap.size) : Below B w w' :=
  below_of_grown (v := .slice none 0 0) h (fun b e => by simp [Value.ownBlock] at e) hB



def Sh_lays156_ren : Go.Shelf.Ren := ⟨fun | 156 => 27 | 165 => 32 | 166 => 33 | 169 => 34 | 240 => 39 | 241 => 40 | 276 => 51 | 277 => 52 | n => n, fun | 31 => 33 | 9 => 9 | 3 => 3 | 4 => 4 | 0 => 0 | 20 => 20 | 72 => 54 | 76 => 49 | 70 => 52 | 37 => 51 | 75 => 48 | 127 => 59 | 164 => 73 | 5 => 5 | 80 => 56 | n => n, fun | n => n⟩
theorem Sh_lays156 : Go.Proofs.Lays.n156 Tryd.prog Sh_lays156_ren := {
  mixed := by kernel_rfl
  f156 := Tryd.func27.trans (congrArg some (by kernel_rfl))
  f165 := Tryd.func32.trans (congrArg some (by kernel_rfl))
  f166 := Tryd.func33.trans (congrArg some (by kernel_rfl))
  f169 := Tryd.func34.trans (congrArg some (by kernel_rfl))
  f240 := Tryd.func39.trans (congrArg some (by kernel_rfl))
  f241 := Tryd.func40.trans (congrArg some (by kernel_rfl))
  f276 := Tryd.func51.trans (congrArg some (by kernel_rfl))
  f277 := Tryd.func52.trans (congrArg some (by kernel_rfl))
  t0 := Tryd.underlying0
  a0 := Tryd.isAgg0
  z0 := Tryd.sizeOf0
  v0 := Tryd.zeroValue0
  t3 := Tryd.underlying3
  a3 := Tryd.isAgg3
  z3 := Tryd.sizeOf3
  v3 := Tryd.zeroValue3
  t4 := Tryd.underlying4
  a4 := Tryd.isAgg4
  z4 := Tryd.sizeOf4
  v4 := Tryd.zeroValue4
  t9 := Tryd.underlying9
  a9 := Tryd.isAgg9
  z9 := Tryd.sizeOf9
  v9 := Tryd.zeroValue9
  t20 := Tryd.underlying20
  a20 := Tryd.isAgg20
  z20 := Tryd.sizeOf20
  v20 := Tryd.zeroValue20
  t31 := Tryd.underlying33
  a31 := Tryd.isAgg33
  z31 := Tryd.sizeOf33
  v31 := Tryd.zeroValue33
  t37 := Tryd.underlying51
  a37 := Tryd.isAgg51
  z37 := Tryd.sizeOf51
  v37 := Tryd.zeroValue51
  t70 := Tryd.underlying52
  a70 := Tryd.isAgg52
  z70 := Tryd.sizeOf52
  v70 := Tryd.zeroValue52
  t72 := Tryd.underlying54
  a72 := Tryd.isAgg54
  z72 := Tryd.sizeOf54
  v72 := Tryd.zeroValue54
  t75 := Tryd.underlying48
  a75 := Tryd.isAgg48
  z75 := Tryd.sizeOf48
  v75 := Tryd.zeroValue48
  t76 := Tryd.underlying49
  a76 := Tryd.isAgg49
  z76 := Tryd.sizeOf49
  v76 := Tryd.zeroValue49
  t127 := Tryd.underlying59
  a127 := Tryd.isAgg59
  z127 := Tryd.sizeOf59
  v127 := Tryd.zeroValue59
  t164 := Tryd.underlying73
  a164 := Tryd.isAgg73
  z164 := Tryd.sizeOf73
  v164 := Tryd.zeroValue73 }

theorem Sh_Builder_Extra_156 : Builder.Extra Tryd.prog Sh_lays156_ren := {
  sizeBuilder := by kernel_rfl
  liesBuilder := by kernel_rfl
  t5 := Tryd.underlying5
  a5 := Tryd.isAgg5
  z5 := Tryd.sizeOf5
  v5 := Tryd.zeroValue5
  infoByte := by kernel_rfl
  cellsByte := by kernel_rfl
  sizeByte := by kernel_rfl
  neB5 := by decide }

open Go.RowKit in
theorem Sh_strings_Join (bk o c : Nat) (xs : List ByteArray) (sep : ByteArray) (w : World) (hcells : ∀ (j : Nat) x, xs[j]? = some x → w.cell? ⟨bk, o + j, none⟩ = some (.string x)) (hbk : bk < w.heap.size) (hN : xs.length ≤ 140737488355328) (hcap : xs.length ≤ c) (hlen : (Lib.join (xs.map (·.data.toList)) sep.data.toList).length ≤ 140737488355328) :
    Calls Tryd.prog 27 #[.slice (some ⟨bk, o, none⟩) xs.length c, .string sep] w fun e w' => e = .returned (.string ⟨(Lib.join (xs.map (·.data.toList)) sep.data.toList).toArray⟩) ∧ Below w.heap.size w w' := Any.strings_Join Sh_lays156 Sh_Builder_Extra_156 bk o c xs sep w hcells hbk hN hcap hlen

open Go.RowKit in
theorem Sh_strings_Join_none (a : Option Addr) (c : Nat) (sep : ByteArray) (w : World) :
    Calls Tryd.prog 27 #[.slice a 0 c, .string sep] w fun e w' => e = .returned (.string ⟨#[]⟩) ∧ w' = w := Any.strings_Join_none Sh_lays156 Sh_Builder_Extra_156 a c sep w

def Sh_lays171_ren : Go.Shelf.Ren := ⟨fun | 171 => 26 | 243 => 31 | 246 => 38 | 283 => 47 | 284 => 48 | 285 => 49 | 286 => 50 | 129 => 61 | 317 => 60 | 318 => 62 | 319 => 63 | 320 => 64 | 337 => 69 | 338 => 70 | n => n, fun | 3 => 3 | 9 => 9 | 2 => 2 | 4 => 4 | 171 => 67 | 0 => 0 | 53 => 68 | 37 => 51 | 5 => 5 | 173 => 71 | 212 => 86 | 51 => 87 | 20 => 20 | 213 => 88 | 46 => 78 | 232 => 98 | 233 => 99 | n => n, fun | 17 => 3 | 18 => 4 | 19 => 5 | n => n⟩
theorem Sh_lays171 : Go.Proofs.Lays.n171 Tryd.prog Sh_lays171_ren := {
  mixed := by kernel_rfl
  f129 := Tryd.func61.trans (congrArg some (by kernel_rfl))
  f171 := Tryd.func26.trans (congrArg some (by kernel_rfl))
  f243 := Tryd.func31.trans (congrArg some (by kernel_rfl))
  f246 := Tryd.func38.trans (congrArg some (by kernel_rfl))
  f283 := Tryd.func47.trans (congrArg some (by kernel_rfl))
  f284 := Tryd.func48.trans (congrArg some (by kernel_rfl))
  f285 := Tryd.func49.trans (congrArg some (by kernel_rfl))
  f286 := Tryd.func50.trans (congrArg some (by kernel_rfl))
  f317 := Tryd.func60.trans (congrArg some (by kernel_rfl))
  f318 := Tryd.func62.trans (congrArg some (by kernel_rfl))
  f319 := Tryd.func63.trans (congrArg some (by kernel_rfl))
  f320 := Tryd.func64.trans (congrArg some (by kernel_rfl))
  f337 := Tryd.func69.trans (congrArg some (by kernel_rfl))
  f338 := Tryd.func70.trans (congrArg some (by kernel_rfl))
  t0 := Tryd.underlying0
  a0 := Tryd.isAgg0
  z0 := Tryd.sizeOf0
  v0 := Tryd.zeroValue0
  t2 := Tryd.underlying2
  a2 := Tryd.isAgg2
  z2 := Tryd.sizeOf2
  v2 := Tryd.zeroValue2
  t3 := Tryd.underlying3
  a3 := Tryd.isAgg3
  z3 := Tryd.sizeOf3
  v3 := Tryd.zeroValue3
  t4 := Tryd.underlying4
  a4 := Tryd.isAgg4
  z4 := Tryd.sizeOf4
  v4 := Tryd.zeroValue4
  t5 := Tryd.underlying5
  a5 := Tryd.isAgg5
  z5 := Tryd.sizeOf5
  v5 := Tryd.zeroValue5
  t9 := Tryd.underlying9
  a9 := Tryd.isAgg9
  z9 := Tryd.sizeOf9
  v9 := Tryd.zeroValue9
  t20 := Tryd.underlying20
  a20 := Tryd.isAgg20
  z20 := Tryd.sizeOf20
  v20 := Tryd.zeroValue20
  t37 := Tryd.underlying51
  a37 := Tryd.isAgg51
  z37 := Tryd.sizeOf51
  v37 := Tryd.zeroValue51
  t46 := Tryd.underlying78
  a46 := Tryd.isAgg78
  z46 := Tryd.sizeOf78
  v46 := Tryd.zeroValue78
  t51 := Tryd.underlying87
  a51 := Tryd.isAgg87
  z51 := Tryd.sizeOf87
  v51 := Tryd.zeroValue87
  t53 := Tryd.underlying68
  a53 := Tryd.isAgg68
  z53 := Tryd.sizeOf68
  v53 := Tryd.zeroValue68
  t171 := Tryd.underlying67
  a171 := Tryd.isAgg67
  z171 := Tryd.sizeOf67
  v171 := Tryd.zeroValue67
  t173 := Tryd.underlying71
  a173 := Tryd.isAgg71
  z173 := Tryd.sizeOf71
  v173 := Tryd.zeroValue71
  t212 := Tryd.underlying86
  a212 := Tryd.isAgg86
  z212 := Tryd.sizeOf86
  v212 := Tryd.zeroValue86
  t213 := Tryd.underlying88
  a213 := Tryd.isAgg88
  z213 := Tryd.sizeOf88
  t232 := Tryd.underlying98
  a232 := Tryd.isAgg98
  z232 := Tryd.sizeOf98
  v232 := Tryd.zeroValue98
  t233 := Tryd.underlying99
  a233 := Tryd.isAgg99
  z233 := Tryd.sizeOf99
  v233 := Tryd.zeroValue99
  g17 := by kernel_rfl
  g18 := by kernel_rfl
  g19 := by kernel_rfl }

open Go.RowKit Go.Sort Go.Lib in
theorem Sh_strconv_Itoa_small (i : Nat) (hi : i < 100) (w : World) :
    Calls Tryd.prog 26 #[.int .i64 i] w fun e w' => e = .returned (.string ⟨(Lib.decDigits i).toArray⟩) ∧ w' = w := Any.strconv_Itoa_small Sh_lays171 i hi w

theorem infoString : (Tryd.prog.info? 9).map (fun i => (i.zero, i.size, i.bytes)) = some (some (.string ⟨#[]⟩), 1, 16) := by kernel_rfl
/-- the row of words: the first k are numbers in decimal -/
def wrdS (xs : List Int) (k : Nat) : List ByteArray := (List.range k).map (fun j => decB (nth xs j).toNat) ++ List.replicate (xs.length - k) ⟨#[]⟩
theorem wrdS_len (xs : List Int) {k : Nat} (h : k ≤ xs.length) : (wrdS xs k).length = xs.length := by simp [wrdS]; omega
theorem wrdS_set (xs : List Int) {k : Nat} (h : k < xs.length) : (wrdS xs k).set k (decB (nth xs k).toNat) = wrdS xs (k+1) := by
  have hl : ((List.range k).map (fun j => decB (nth xs j).toNat)).length = k := by simp
  rw [wrdS, List.set_append_right _ _ (by omega), hl, Nat.sub_self, show xs.length - k = (xs.length - (k+1)) + 1 by omega, List.replicate_succ, wrdS, List.range_succ, List.map_append]
  simp
theorem wrdS_end (xs : List Int) : wrdS xs xs.length = (List.range xs.length).map (fun j => decB (nth xs j).toNat) := by simp [wrdS]
theorem wrd_join (xs : List Int) : (⟨(Lib.join ((wrdS xs xs.length).map (·.data.toList)) [44]).toArray⟩ : ByteArray) = txB xs xs.length := by
  rw [wrdS_end, txB, tL, List.map_map]
  rfl
def OwnT (w : World) (B : Nat) (v : Value) (n : Nat) (ys : List ByteArray) : Prop := w.ownsRow B 9 1 v n (ys.map Value.string)
set_option maxRecDepth 100000 in
theorem numText_any (a : Option Addr) (xs : List Int) (cap : Nat) (w : World) (hx : Rd w a xs) (hl : xs.length ≤ 1000) (hb : ∀ j, j < xs.length → 0 ≤ nth xs j ∧ nth xs j ≤ 99) :
    Calls Tryd.prog 16 #[.slice a xs.length cap] w fun e w' => e = .returned (.string (txB xs xs.length)) ∧ Below w.heap.size w w' := by
  obtain ⟨i0, hi, hz0, hz1, hz2⟩ := info_parts infoString
  have HB := Lib.hid hb
  clear hb
  go_enter Tryd.func16, Tryd.ntmps16
  go_wp2_with (at_make; refine wpList_make_full _ rfl (.tmp 7) (.tmp 7) 33 rfl w.heap.size 9 i0 (.string ⟨#[]⟩) 1 Tryd.underlying33 hi hz0 hz1 .i64 .i64 _ _ xs.length rfl rfl rfl rfl (by rw [hz2]; omega) (by unfold maxLen; omega) (Nat.le_refl _) ?_; intro w2 hown2 hgrow2)
  have b2 : Below w.heap.size w w2 := below_grown_none hgrow2 (Nat.le_refl _)
  have O2 : OwnT w2 w.heap.size (.slice (some ⟨w.heap.size, 0, none⟩) xs.length xs.length) xs.length (wrdS xs 0) := by
    have e : (madeCells (Value.string ⟨#[]⟩).cells (xs.length * 1)).toList = (wrdS xs 0).map Value.string := by
      apply List.ext_getElem?
      intro j
      simp [madeCells, Value.cells, Nat.mod_one, wrdS]
      by_cases hj : j < xs.length <;> simp [hj]
    unfold OwnT
    rw [← e]
    exact hown2
  obtain ⟨g, hg⟩ : ∃ g, g = w.heap.size := ⟨_, rfl⟩
  have hgB : w.heap.size ≤ g := by omega
  have O3 : OwnT w2 w.heap.size (.slice (some ⟨g, 0, none⟩) xs.length xs.length) xs.length (wrdS xs 0) := by rw [hg]; exact O2
  rw [← hg]
  clear hown2 hgrow2 O2 hg
  go_loopw [11] (fun i wr => ∃ k : Nat, k ≤ xs.length ∧ i = .int .i64 k ∧ OwnT wr w.heap.size (.slice (some ⟨g, 0, none⟩) xs.length xs.length) xs.length (wrdS xs k) ∧ Below w.heap.size w wr) (fun i _ => xs.length - (intOf i).toNat)
  case atStart => exact ⟨0, Nat.zero_le _, rfl, O3, b2⟩
  case round =>
    clear O3 b2
    obtain ⟨k, hk, rfl, hO, hbw⟩ := hrel
    by_cases hlt : k < xs.length
    · have hxr := hx.below hbw
      obtain ⟨b, off, rfl, hbl, hc⟩ := hxr.cell k hlt
      have ⟨x0, x1⟩ := HB.out k hlt
      obtain ⟨X, hX⟩ := Int.eq_ofNat_of_zero_le x0
      rw [hX] at hc
      have hXn : (nth xs k).toNat = X := by rw [hX]; rfl
      have hX1 : X < 100 := by omega
      have hkl : k < (wrdS xs k).length := by rw [wrdS_len xs hk]; exact hlt
      have hst := World.ownsRow.stored hO k (.string (decB X))
      rw [← List.map_set, ← hXn, wrdS_set xs hlt, hXn] at hst
      have HST : Hid (OwnT (wr.setCell ⟨g, k, none⟩ (.string (decB X))) w.heap.size (.slice (some ⟨g, 0, none⟩) xs.length xs.length) xs.length (wrdS xs (k+1))) := by
        exact hst.1
      have cf := World.ownsRow.frozenAt hO k
      have cc := World.ownsRow.cellAt hO k (by omega)
      obtain ⟨u, hu⟩ : ∃ u, ((wrdS xs k).map Value.string)[k]? = some u := ⟨_, List.getElem?_eq_getElem (by simpa using hkl)⟩
      have ck : wr.cell? ⟨g, k, none⟩ = some u := by rw [cc]; simpa using hu
      clear cc hu hst x0 x1 hX hXn hkl
      go_wp2_with fail
      refine (Sh_strconv_Itoa_small X hX1 _).mono ?_
      rintro e w' ⟨rfl, rfl⟩
      rw [show (⟨(Lib.decDigits X).toArray⟩ : ByteArray) = decB X from rfl]
      go_wp2_with fail
      go_roundw
      case rel => exact ⟨k + 1, by omega, by go_num, HST.out, hbw.setCell (p := ⟨g, k, none⟩) hgB _⟩
      case measure => simp [intOf]; omega
    · obtain rfl : k = xs.length := by omega
      have hJ := Sh_strings_Join g 0 xs.length (wrdS xs xs.length) ⟨#[44]⟩ wr (fun j x hj => by
          have hjl := (List.getElem?_eq_some_iff.1 hj).1
          rw [wrdS_len xs (Nat.le_refl _)] at hjl
          rw [Nat.zero_add, World.ownsRow.cellAt hO j (by omega), List.getElem?_map, hj]; rfl) (World.ownsRow.lt hO g rfl).2 (by rw [wrdS_len xs (Nat.le_refl _)]; omega) (by rw [wrdS_len xs (Nat.le_refl _)]; exact Nat.le_refl _) (by
          have h1 := txB_size (xs := xs) (c := 99) (fun j hj => by have := HB.out j hj; omega) (Nat.le_refl xs.length)
          rw [← wrd_join] at h1
          have h2 : (⟨(Lib.join ((wrdS xs xs.length).map (·.data.toList)) [44]).toArray⟩ : ByteArray).size = (Lib.join ((wrdS xs xs.length).map (·.data.toList)) [44]).length := by simp [ByteArray.size]
          rw [h2] at h1
          have h3 : xs.length * 101 ≤ 1000 * 101 := Nat.mul_le_mul hl (Nat.le_refl _)
          show (Lib.join ((wrdS xs xs.length).map (·.data.toList)) [44]).length ≤ _
          omega)
      rw [wrdS_len xs (Nat.le_refl _), show ((⟨#[44]⟩ : ByteArray).data.toList) = [44] from rfl, wrd_join] at hJ
      have HJ := Lib.hid hJ
      clear hJ
      go_wp2_with fail
      refine HJ.out.mono ?_
      rintro e w3 ⟨rfl, hb3⟩
      go_wp2_with fail
      go_ret
      exact ⟨rfl, hbw.trans (hb3.mono hbw.size)⟩

theorem noClimb_any (w : World) :
    Calls Tryd.prog 23 #[] w fun e w' => e = .returned (.agg #[.int .i64 (-1), .int .i64 (-1)]) ∧ Below w.heap.size w w' := by
  go_enter Tryd.func23, Tryd.ntmps23
  go_wp2
  refine bodyPost_ret (v := .agg #[.int .i64 (-1), .int .i64 (-1)]) (by simp [results, Tryd.results23, go_sem]) rfl ⟨rfl, ?_⟩
  exact (by repeat (first | exact Below.refl _ _ | assumption | refine Below.alloc ?_ (by first | exact Nat.le_refl _ | (simp only [World.size_alloc, World.size_setCell, World.size_drew]; omega) | omega) _ | refine Below.setCell ?_ (by first | exact Nat.le_refl _ | (simp only [World.size_alloc, World.size_setCell, World.size_drew]; omega) | omega) _ | refine Below.drew ?_))
theorem greatest_any (l c : Int) (w : World) (h0 : -1 ≤ c) (h1 : c ≤ 1000) :
    Calls Tryd.prog 24 #[.agg #[.int .i64 l, .int .i64 c]] w fun e w' => e = .returned (.int .i64 (c + 1)) ∧ Below w.heap.size w w' := by
  go_enter Tryd.func24, Tryd.ntmps24
  go_wp2
  go_ret
  exact ⟨rfl, (by repeat (first | exact Below.refl _ _ | assumption | refine Below.alloc ?_ (by first | exact Nat.le_refl _ | (simp only [World.size_alloc, World.size_setCell, World.size_drew]; omega) | omega) _ | refine Below.setCell ?_ (by first | exact Nat.le_refl _ | (simp only [World.size_alloc, World.size_setCell, World.size_drew]; omega) | omega) _ | refine Below.drew ?_))⟩
theorem by_any (l c x : Int) (w : World) (h0 : -1 ≤ c) (h1 : c ≤ 1000) :
    Calls Tryd.prog 25 #[.agg #[.int .i64 l, .int .i64 c], .int .i64 x] w fun e w' => e = .returned (.agg #[.int .i64 x, .int .i64 (byA l c x)]) ∧ Below w.heap.size w w' := by
  by_cases h : l < x
  · have H : Hid (byA l c x = c + 1) := by simp [Hid, byA, h]
    go_enter Tryd.func25, Tryd.ntmps25
    go_wp2
    refine bodyPost_ret (v := .agg #[.int .i64 x, .int .i64 (c + 1)]) (by simp [results, Tryd.results25, go_sem]) rfl ⟨by rw [H.out], ?_⟩
    exact (by repeat (first | exact Below.refl _ _ | assumption | refine Below.alloc ?_ (by first | exact Nat.le_refl _ | (simp only [World.size_alloc, World.size_setCell, World.size_drew]; omega) | omega) _ | refine Below.setCell ?_ (by first | exact Nat.le_refl _ | (simp only [World.size_alloc, World.size_setCell, World.size_drew]; omega) | omega) _ | refine Below.drew ?_))
  · have H : Hid (byA l c x = c) := by simp [Hid, byA, h]
    go_enter Tryd.func25, Tryd.ntmps25
    go_wp2
    refine bodyPost_ret (v := .agg #[.int .i64 x, .int .i64 c]) (by simp [results, Tryd.results25, go_sem]) rfl ⟨by rw [H.out], ?_⟩
    exact (by repeat (first | exact Below.refl _ _ | assumption | refine Below.alloc ?_ (by first | exact Nat.le_refl _ | (simp only [World.size_alloc, World.size_setCell, World.size_drew]; omega) | omega) _ | refine Below.setCell ?_ (by first | exact Nat.le_refl _ | (simp only [World.size_alloc, World.size_setCell, World.size_drew]; omega) | omega) _ | refine Below.drew ?_))

theorem iIsAscent_any (a : Option Addr) (xs : List Int) (cap : Nat) (w : World) (hx : Rd w a xs) :
    Calls Tryd.prog 15 #[.slice a xs.length cap] w fun e w' => e = .returned (.bool (ascB xs)) ∧ Below w.heap.size w w' := by
  have hlen := hx.len
  by_cases hl : xs.length ≤ 12
  · go_enter Tryd.func15, Tryd.ntmps15
    go_wp2_with fail
    refine (noClimb_any _).mono ?_
    rintro e w1 ⟨rfl, hb1⟩
    have hz1 := hb1.size
    have V1 : Var2 (w1.alloc (.cells #[.int .i64 (-1), .int .i64 (-1)] 40)) w1.heap.size (.int .i64 (-1)) (.int .i64 (-1)) := Var2.new w1 _ _ _
    have b2 : Below w.heap.size w (w1.alloc (.cells #[.int .i64 (-1), .int .i64 (-1)] 40)) := hb1.alloc hz1 _
    go_wp2_with fail
    obtain ⟨g, hg⟩ : ∃ g, g = w1.heap.size := ⟨_, rfl⟩
    rw [← hg] at V1 hz1 ⊢
    clear hg
    go_loopw [12] (fun i wr => ∃ k : Nat, k ≤ xs.length ∧ i = .int .i64 k ∧ (∀ j, j < k → ascOk xs j = true) ∧ Var2 wr g (.int .i64 (clLast xs k)) (.int .i64 (clAsc xs k)) ∧ Below w.heap.size w wr) (fun i _ => xs.length - (intOf i).toNat)
    case atStart => exact ⟨0, Nat.zero_le _, rfl, fun j hj => by omega, V1, b2⟩
    case round =>
      clear V1 b2 hb1
      obtain ⟨k, hk, rfl, hall, hV, hb⟩ := hrel
      have HA := Lib.hid hall
      have ⟨⟨zV, cV, dV⟩, fV, gV⟩ := hV
      have ⟨ca0, ca1⟩ := clAsc_lt xs k
      clear hall
      by_cases hlt : k < xs.length
      · have hxr := hx.below hb
        obtain ⟨b, off, rfl, hbl, hc⟩ := hxr.cell k hlt
        by_cases h0 : nth xs k < 0
        · have HO : Hid (ascB xs = false) := ascB_no hlt (by rw [ascOk, inB_no]; omega)
          go_wp2_with fail
          go_ret
          exact ⟨ret_bool HO.out.symm, hb⟩
        · by_cases h1 : clAsc xs k + 1 < nth xs k
          · have HO : Hid (ascB xs = false) := ascB_no hlt (by rw [ascOk, inB_no, ← clAsc_bnd]; omega)
            go_wp2_with fail
            refine (greatest_any _ _ _ ca0 (by omega)).mono ?_
            rintro e w2 ⟨rfl, hb2⟩
            go_wp2_with fail
            go_ret
            exact ⟨ret_bool HO.out.symm, hb.trans (hb2.mono hb.size)⟩
          · have HM : Hid (ascOk xs k = true) := by rw [Hid, ascOk, inB_iff, ← clAsc_bnd]; omega
            have HS : Hid (byA (clLast xs k) (clAsc xs k) (nth xs k) = clAsc xs (k+1)) := clAsc_succ (by omega)
            have HL : Hid (clLast xs (k+1) = nth xs k) := clLast_succ xs k
            go_wp2_with fail
            refine (greatest_any _ _ _ ca0 (by omega)).mono ?_
            rintro e w2 ⟨rfl, hb2⟩
            have V2 := hV.below hb2
            have ⟨⟨zV2, cV2, dV2⟩, fV2, gV2⟩ := V2
            clear cV dV fV gV
            go_wp2_with fail
            refine (by_any _ _ _ _ ca0 (by omega)).mono ?_
            rintro e w3 ⟨rfl, hb3⟩
            have V3 := V2.below hb3
            have ⟨⟨zV3, cV3, dV3⟩, fV3, gV3⟩ := V3
            clear cV2 dV2 fV2 gV2
            rw [HS.out]
            have b3 : Below w.heap.size w w3 := (hb.trans (hb2.mono hb.size)).trans (hb3.mono (Nat.le_trans hb.size hb2.size))
            go_wp2_with fail
            go_roundw
            case rel =>
              refine ⟨k + 1, by omega, by go_num, fun j hj => ?_, by rw [HL.out]; exact V3.set _ _, (b3.setCell (p := ⟨g, 0, none⟩) hz1 _).setCell (p := ⟨g, 1, none⟩) hz1 _⟩
              by_cases e : j = k
              · rw [e]; exact HM.out
              · exact HA.out j (by omega)
            case measure => simp [intOf]; omega
      · obtain rfl : k = xs.length := by omega
        have HO : Hid (ascB xs = true) := ascB_iff.2 ⟨hl, HA.out⟩
        go_wp2_with fail
        go_ret
        exact ⟨ret_bool HO.out.symm, hb⟩
  · have HO := Lib.hid (ascB_long hl)
    go_enter Tryd.func15, Tryd.ntmps15
    go_wp2_with fail
    go_ret
    exact ⟨ret_bool HO.out.symm, Below.refl _ _⟩

theorem iIsAscent_anyc (a : Option Addr) (xs : List Int) (cap : Nat) (w : World) (hx : Rd w a xs) (_ : xs.length ≤ cap) :
    Calls Tryd.prog 15 #[.slice a xs.length cap] w fun e w' => e = .returned (.bool (ascB xs)) ∧ Below w.heap.size w w' := iIsAscent_any a xs cap w hx

set_option maxRecDepth 100000 in
theorem iAText_any (a : Option Addr) (xs : List Int) (cap : Nat) (w : World) (hx : Rd w a xs) (hcap : xs.length ≤ cap) :
    Calls Tryd.prog 7 #[.slice a xs.length cap] w fun e w' => e = .returned (.tuple #[.string (atS xs), .bool (ascB xs)]) ∧ Below w.heap.size w w' := by
  cases hA : ascB xs
  · have HA := Lib.hid hA
    have HR : Hid (atS xs = ⟨#[]⟩) := by simp [Hid, atS, hA]
    clear hA
    go_enter Tryd.func7, Tryd.ntmps7
    go_wp2_with fail
    refine (iIsAscent_anyc _ _ _ _ hx hcap).mono ?_
    rw [HA.out]
    rintro e w1 ⟨rfl, hb1⟩
    go_wp2_with fail
    refine bodyPost_ret (v := .tuple #[.string ⟨#[]⟩, .bool false]) (by simp [results, Tryd.results7, go_sem]) rfl ?_
    exact ⟨by rw [HR.out], hb1⟩
  · have HA := Lib.hid hA
    have HR : Hid (atS xs = txB xs xs.length) := by simp [Hid, atS, hA]
    have h12 := (ascB_iff.1 hA).1
    clear hA
    go_enter Tryd.func7, Tryd.ntmps7
    go_wp2_with fail
    refine (iIsAscent_anyc _ _ _ _ hx hcap).mono ?_
    rw [HA.out]
    rintro e w1 ⟨rfl, hb1⟩
    go_wp2_with fail
    refine (numText_any _ _ _ _ (hx.below hb1) (by omega) (fun j hj => by have := ascB_small HA.out hj; omega)).mono ?_
    rintro e w2 ⟨rfl, hb2⟩
    go_wp2_with fail
    refine bodyPost_ret (v := .tuple #[.string (txB xs xs.length), .bool true]) (by simp [results, Tryd.results7, go_sem]) rfl ?_
    exact ⟨by rw [HR.out], hb1.trans (hb2.mono hb1.size)⟩

theorem walk (a0 : Option Addr) (xs0 : List Int) (cap0 : Nat) (w : World) (hx0 : Rd w a0 xs0) :
    Calls Tryd.prog 3 #[.slice a0 xs0.length cap0] w fun e w' => e = .returned (.bool true) ∧ Below w.heap.size w w' := by
  by_cases hs0 : 1048576 < (xs0.length : Int)
  · go_enter Tryd.func3, Tryd.ntmps3
    go_wp2_with fail
    go_ret
    exact ⟨rfl, (by repeat (first | exact Below.refl _ _ | assumption | refine Below.alloc ?_ (by first | exact Nat.le_refl _ | (simp only [World.size_alloc, World.size_setCell, World.size_drew]; omega) | omega) _ | refine Below.setCell ?_ (by first | exact Nat.le_refl _ | (simp only [World.size_alloc, World.size_setCell, World.size_drew]; omega) | omega) _ | refine Below.drew ?_))⟩
  go_enter Tryd.func3, Tryd.ntmps3
  go_wp2_with fail
  refine (toIntS_any _ _ _ _ (hx0.below (Below.refl _ _)) (by omega)).mono ?_
  rintro e w1 ⟨pT0, qT0, rfl, ho, hb⟩
  have ht : Below w.heap.size w w1 := Below.trans (by repeat (first | exact Below.refl _ _ | assumption | refine Below.alloc ?_ (by first | exact Nat.le_refl _ | (simp only [World.size_alloc, World.size_setCell, World.size_drew]; omega) | omega) _ | refine Below.setCell ?_ (by first | exact Nat.le_refl _ | (simp only [World.size_alloc, World.size_setCell, World.size_drew]; omega) | omega) _ | refine Below.drew ?_)) (hb.mono (by first | (simp only [World.size_alloc, World.size_setCell, World.size_drew]; omega) | omega))
  have z1 : w.heap.size ≤ w1.heap.size := ht.size
  have bw1 : Below w.heap.size w w1 := ht
  have T0_1 := ho
  have UT0 := T0_1.cut (Nat.le_refl _)
  clear ho
  clear ht hb
  go_wp2_with fail
  refine (sAText_any _ _ _ _ (T0_1.rd) T0_1.capLe).mono ?_
  rintro e w2 ⟨rfl, hb⟩
  have ht : Below w1.heap.size w1 w2 := hb
  have z2 : w1.heap.size ≤ w2.heap.size := ht.size
  have bw2 : Below w.heap.size w w2 := bw1.trans (ht.mono bw1.size)
  have T0_2 := T0_1.below ht (Nat.le_refl _)
  clear T0_1
  clear ht hb
  go_wp2_with fail
  clear T0_2 UT0
  refine (toIntS_any _ _ _ _ (hx0.below bw2) (by omega)).mono ?_
  rintro e w3 ⟨pX0, qX0, rfl, ho, hb⟩
  have ht : Below w2.heap.size w2 w3 := hb
  have z3 : w2.heap.size ≤ w3.heap.size := ht.size
  have bw3 : Below w.heap.size w w3 := bw2.trans (ht.mono bw2.size)
  have X0_3 := ho
  have UX0 := X0_3.cut (Nat.le_refl _)
  clear ho
  clear ht hb
  go_wp2_with fail
  refine (iAText_any _ _ _ _ (X0_3.rd) X0_3.capLe).mono ?_
  rintro e w4 ⟨rfl, hb⟩
  have ht : Below w3.heap.size w3 w4 := hb
  have z4 : w3.heap.size ≤ w4.heap.size := ht.size
  have bw4 : Below w.heap.size w w4 := bw3.trans (ht.mono bw3.size)
  have X0_4 := X0_3.below ht (Nat.le_refl _)
  clear X0_3
  clear ht hb
  go_wp2_with fail
  refine (toIntS_any _ _ _ _ (hx0.below bw4) (by omega)).mono ?_
  rintro e w5 ⟨pY0, qY0, rfl, ho, hb⟩
  have ht : Below w4.heap.size w4 w5 := hb
  have z5 : w4.heap.size ≤ w5.heap.size := ht.size
  have bw5 : Below w.heap.size w w5 := bw4.trans (ht.mono bw4.size)
  have X0_5 := X0_4.below ht (Nat.le_refl _)
  clear X0_4
  have Y0_5 := ho
  have UY0 := Y0_5.cut (Nat.le_refl _)
  clear ho
  clear ht hb
  go_wp2_with fail
  refine (eqIntS_any _ _ xs0 xs0 _ _ _ X0_5.rd Y0_5.rd).mono ?_
  rw [eqL_self]
  rintro e w6 ⟨rfl, hb⟩
  have ht : Below w5.heap.size w5 w6 := hb
  have z6 : w5.heap.size ≤ w6.heap.size := ht.size
  have bw6 : Below w.heap.size w w6 := bw5.trans (ht.mono bw5.size)
  have X0_6 := X0_5.below ht (Nat.le_refl _)
  have Y0_6 := Y0_5.below ht (Nat.le_refl _)
  clear X0_5 Y0_5
  clear ht hb
  go_wp2_with fail
  clear Y0_6 UY0
  go_ret
  exact ⟨rfl, bw6⟩

theorem rd_of_trod {H : Type} {enc : TypeId × Value → H} {W : World} {fuel : Nat} {c : Value} {y : DataW H × List MemPlace}
    (h : DataW.trod enc Tryd.prog W 0 (fun _ => true) true fuel 22 [c] = some y) : ∃ (a : Option Addr) (xs : List Int) (cap : Nat), c = .slice a xs.length cap ∧ Rd W a xs ∧ ∀ k, k < xs.length → (Lit.int .i64 (nth xs k)).wf = true := by
  rcases Go.ChangeShapes.open_ints Tryd.underlying22 Tryd.underlying3 (by kernel_rfl) h with ⟨hcs, _⟩ | ⟨x, len, cap, zs, hcs, _, hl, hm, hz, _, hcell, hwf⟩
  · simp only [List.cons.injEq, and_true] at hcs
    exact ⟨none, [], 0, hcs, ⟨by simp, fun k hk => by simp at hk⟩, fun k hk => by simp at hk⟩
  · simp only [List.cons.injEq, and_true] at hcs
    simp only [if_true] at hz
    have hlen : (zs.take len).length = len := by rw [List.length_take]; omega
    have hn : ∀ k, k < len → nth (zs.take len) k = zs.getD k 0 := by
      intro k hk
      simp only [nth, List.getD_eq_getElem?_getD, List.getElem?_take, hk, if_true]
    refine ⟨some x, zs.take len, cap, by rw [hlen]; exact hcs, ⟨by rw [hlen]; unfold maxLen at hm; omega, fun k hk => ?_⟩, fun k hk => ?_⟩
    · rw [hlen] at hk
      obtain ⟨b, off, sp⟩ := x
      have h0 := hcell 0 (by omega)
      have hsp : sp = none := by simpa [Addr.add] using World.cell?_spot h0
      subst hsp
      have hk' := hcell k (by omega)
      rw [Addr.add_lit] at hk'
      exact ⟨b, off, rfl, World.block_lt_of_cell? _ _ h0, by rw [hk', hn k hk]⟩
    · rw [hlen] at hk
      rw [hn k hk]
      have hk2 : k < zs.length := by omega
      exact hwf _ (by rw [List.getD_eq_getElem?_getD, List.getElem?_eq_getElem hk2]; exact List.getElem_mem hk2)

theorem own : ownKnob Tryd.prog.godebug = none := by kernel_rfl
theorem laidOut : laidOutB Tryd.prog = true := by kernel_rfl
theorem wf_bd {n : Int} (h : (Lit.int .i64 n).wf = true) : -9223372036854775808 ≤ n ∧ n ≤ 9223372036854775807 := by
  simp [Lit.wf, IntKind.min, IntKind.max, IntKind.bits, IntKind.signed] at h
  omega

def ldT {H : Type} : List (String × DataW H) := [("math/bits.deBruijn32tab", Rows.laid_math_bits_deBruijn32tab), ("math/bits.deBruijn64tab", Rows.laid_math_bits_deBruijn64tab), ("internal/strconv.uint64pow10", Rows.laid_internal_strconv_uint64pow10)]
theorem door_met (os : Os) (args : Array Value) : laidMetH Tryd.prog ldT ((World.doorLaid Tryd.prog 400 os).forCall (fun _ _ => 0) ⟨#[], args, []⟩).memory :=
  laidMetH_of_parts3 (fuel := 8) (laidMet_of_run' 8 (by kernel_rfl) (by kernel_rfl)) (by kernel_rfl) (by kernel_rfl)

open Go.ChangeShapes Go.WideShapes Go.ChangeAt Go.RowKit in
set_option maxRecDepth 100000 in
theorem lifted (os : Os) (started : os.Started) (H : Type) (enc : TypeId × Value → H) :
    ReturnsInHanded {} Tryd.checked os 3 .any (fun w args => (Rows.fnExactAscentTextSpec.pre enc Tryd.prog Tryd.f3 [] false w args ∧ laidMetH Tryd.prog ldT w) ∧ sizedMet enc Tryd.prog Tryd.f3 (OpenSpec.ofChange Rows.fnExactAscentTextSpec) false w args) (Rows.fnExactAscentTextSpec.post enc Tryd.prog Tryd.f3 false true false false) := by
  refine returnsInHanded_of_change_and (C := Tryd.checked) (X := fun w _ => laidMetH Tryd.prog ldT w) (fun _ _ _ hh h => h.of_heap hh) own started (by kernel_rfl) Tryd.func3
    (ChangeSpec.witness_shaped (enc := enc) (C := Tryd.checked) (os := os) (X := fun w _ => laidMetH Tryd.prog ldT w) false (World.doorLaid Tryd.prog 400 os) #[.slice none 0 0] 8 rfl (World.shaped_of_RefB (by kernel_rfl) (by kernel_rfl)) (by kernel_rfl) (by kernel_rfl) (by kernel_rfl) (door_met os _)) ?_
  intro W base args ds gs before hval0 hW _ _ hL _
  have hval : ∀ (j : Nat) t v, Tryd.f3.params[j]? = some t → args[j]? = some v → Value.okWide Tryd.prog W .any base t v := hval0
  have hW' := hW
  obtain ⟨p, q, hA0, hV, rfl, hfz, hnd⟩ := hW
  have hA : DataW.TrodAll enc Tryd.prog W 0 (fun _ => true) true Tryd.f3.params.toList args.toList ds p := hA0
  rw [Tryd.params3] at hA hval
  obtain ⟨v0, vs0, d0, ds0, p0, q0, hargs, rfl, rfl, h0, r0⟩ := trodAll_cons hA
  obtain ⟨rfl, rfl, rfl⟩ := trodAll_nil r0
  obtain rfl : args = #[v0] := by cases args; simp_all
  obtain ⟨rfl, rfl⟩ := trodVars_none hV
  have lt0 : ∀ x ∈ p0, x.block < W.heap.size := by obtain ⟨m, hm⟩ := h0; exact DataW.trod_lt m _ _ _ hm
  obtain ⟨a0, len0, cap0, rfl⟩ := okWide_slice Tryd.underlying22 (hval 0 22 v0 rfl rfl)
  obtain ⟨a0, xs0, cap0, e0, rd0, wl0⟩ := (by obtain ⟨fu, hf⟩ := h0; simp only [Value.cells] at hf; exact rd_of_trod hf : ∃ (a : Option Addr) (xs : List Int) (cap : Nat), Value.slice a0 len0 cap0 = .slice a xs.length cap ∧ Rd W a xs ∧ ∀ k, k < xs.length → (Lit.int .i64 (nth xs k)).wf = true)
  simp only [Value.slice.injEq] at e0
  obtain ⟨rfl, rfl, rfl⟩ := e0
  clear hA0 hval0
  refine (walk a0 xs0 cap0 W rd0).mono fun e W' ⟨he, bel⟩ => ?_
  subst he
  exact ⟨_, rfl, _, _, _, [], _, [], hW', trodAll_mk1 (shut_bool Tryd.underlying4 _), (trodAll_cons_mk (Below.trod laidOut (by kernel_rfl) (of_decide_eq_true (by kernel_rfl)) h0 bel lt0) trodAll_mk0), rfl, bel.frame _, fun h => by cases h⟩
theorem row_holds : Rows.FnExactAscentTextSaid :=
  OpenClaim.holds_of_wide 3 Tryd.f3 rfl rfl rfl rfl rfl rfl rfl ⟨rfl, rfl, rfl, rfl, rfl⟩ rfl rfl rfl rfl rfl (by kernel_rfl) Tryd.func3 (by kernel_rfl)
    (of_decide_eq_true (by kernel_rfl)) (by unfold Func.isWrapper; first | (rw [if_pos (by decide +kernel)]; kernel_rfl) | (rw [if_neg (by decide +kernel)]; exact ⟨rfl, rfl⟩))
    (fun os started H enc _ => lifted os started H enc)
theorem proved : Rows.FnExactAscentTextCardSaid :=
  Claim7.holds_tied_plain_at .later [] [.data, .data, .data] true (true, _) true
    row_holds (fun _ h => by cases h) (by kernel_rfl) (fun _ h => by cases h) fnExactAscentText_row_tie rfl ⟨rfl, rfl⟩ (by kernel_rfl) rfl
    (fun f fn hf hfn => by
      obtain rfl : f = 3 := Option.some.inj ((show Tryd.prog.funcNamed "loop.example/g01106/laws.FnExactAscentText" = some 3 by kernel_rfl).symm.trans hf) |>.symm
      obtain rfl : fn = Tryd.f3 := (Option.some.inj (Tryd.func3.symm.trans hfn)).symm
      exact ⟨by kernel_rfl, fun j t ht => by
        rw [Tryd.params3] at ht
        have hm : t ∈ [22] := by simpa using Array.mem_of_getElem? ht
        have hall : ([22].all fun u => !Tryd.prog.wantsStandIn u) = true := by kernel_rfl
        exact (show Tryd.prog.wantsStandIn t = false by simpa using List.all_eq_true.1 hall t hm)⟩)
    (by kernel_rfl)

end Go.Proofs.YtkhilginiahebabDoor.ascentText
