/- PROVED: the law FnExactTableText returns true for every input, and each of its arguments reads afterwards as before. No conditions. -/
import Derived.Test.YtkfgeccgcffgaaaRows
import Derived.WalkKit
import Derived.WalkSpells
import Derived.WalkLawsBesides
import Derived.Deep.QuietTactic
import Derived.BigQuiet
import Derived.ProofKit
import Derived.OpenShut
import Derived.ShutString
import Derived.ChangeOld
import Derived.Below
import Derived.Lib.SmallJoins
import Derived.Lib.Hide
import Derived.Shelf.Strings.Builder1
import Derived.Shelf.Strings.BuilderF
import Derived.Shelf.Strings.BuilderK
import Derived.Shelf.Slices.Turned
import Derived.Shelf.Slices.Clone
import Derived.Shelf.SlicesE.Clone
import Derived.Deep.RegionHeld3
namespace Go.Proofs.Ytkfgeccgcffgaaa.tableText
open Go Go.RowKit
set_option linter.unusedVariables false
set_option linter.unusedSimpArgs false
set_option maxHeartbeats 400000
open Go.Shelf


/-- a number of a list; a plain function, which the walk leaves alone -/
def nth (xs : List Int) (k : Nat) : Int := xs.getD k 0
theorem nth_get (xs : List Int) (k : Nat) (h : k < xs.length) : nth xs k = xs[k] := by simp [nth, h]
/-- the slice at an address reads as a list -/
structure Rd (w : World) (a : Option Addr) (xs : List Int) : Prop where
  len : xs.length ≤ 9223372036854775807
  cell : ∀ k, k < xs.length → ∃ b off, a = some ⟨b, off, none⟩ ∧ b < w.heap.size ∧ w.cell? ⟨b, off + k, none⟩ = some (.int .i64 (nth xs k))
theorem Rd.below {w w' : World} {a : Option Addr} {xs : List Int} (h : Rd w a xs) (hb : Below w.heap.size w w') : Rd w' a xs :=
  ⟨h.len, fun k hk => by
    obtain ⟨b, off, e, hl, hc⟩ := h.cell k hk
    exact ⟨b, off, e, Nat.lt_of_lt_of_le hl hb.size, (hb.cell (World.block_lt_of_cell? _ _ hc)).trans hc⟩⟩
theorem Rd.mid {w w1 w2 : World} {a : Option Addr} {xs : List Int} {B : Nat} (h : Rd w a xs) (hb : Below B w1 w2) (hB : w.heap.size ≤ B) (h1 : Rd w1 a xs) : Rd w2 a xs :=
  ⟨h.len, fun k hk => by
    obtain ⟨b, off, e, hl, hc⟩ := h.cell k hk
    obtain ⟨b', off', e', hl', hc'⟩ := h1.cell k hk
    rw [e] at e'
    simp only [Option.some.injEq, Addr.mk.injEq, and_true] at e'
    obtain ⟨rfl, rfl⟩ := e'
    exact ⟨b, off, e, Nat.lt_of_lt_of_le hl' hb.size, (hb.cell (by show b < B; omega)).trans hc'⟩⟩
theorem Rd.alloc {w : World} {a : Option Addr} {xs : List Int} (h : Rd w a xs) (o : Obj) : Rd (w.alloc o) a xs :=
  h.below ((Below.refl _ _).alloc (Nat.le_refl _) o)
theorem Rd.same {w w' : World} {a : Option Addr} {xs : List Int} (h : Rd w a xs) (hs : w.heap.size ≤ w'.heap.size)
    (hb : ∀ b off, a = some ⟨b, off, none⟩ → w'.heap[b]? = w.heap[b]?) : Rd w' a xs :=
  ⟨h.len, fun k hk => by
    obtain ⟨b, off, e, hl, hc⟩ := h.cell k hk
    exact ⟨b, off, e, Nat.lt_of_lt_of_le hl hs, (World.cell?_of_block (w := w) (a := ⟨b, off + k, none⟩) (hb b off e)).trans hc⟩⟩
/-- a slice value that owns the row of these integers, in a block from B on -/
def OwnI (w : World) (B : Nat) (v : Value) (xs : List Int) : Prop := w.ownsRow B 3 1 v xs.length (xs.map (Value.int .i64))
theorem OwnI.form {w : World} {B : Nat} {v : Value} {xs : List Int} (h : OwnI w B v xs) : ∃ a cap, v = .slice a xs.length cap := by
  rcases h.2 with ⟨rfl, h0⟩ | ⟨g, cap, cur, rfl, _⟩
  · exact ⟨none, 0, by rw [h0]⟩
  · exact ⟨_, _, rfl⟩
theorem OwnI.rd {w : World} {B n cap : Nat} {a : Option Addr} {xs : List Int} (h : OwnI w B (.slice a n cap) xs) : Rd w a xs := by
  rcases h.2 with ⟨e, h0⟩ | ⟨g, cap', cur, e, hb, hg, hn, hm, hs, ht⟩
  · exact ⟨by omega, fun k hk => by omega⟩
  · simp only [Value.slice.injEq] at e
    obtain ⟨rfl, rfl, rfl⟩ := e
    refine ⟨by unfold maxLen at hm; omega, fun k hk => ⟨g, 0, rfl, (Array.getElem?_eq_some_iff.1 hg).1, ?_⟩⟩
    have := World.ownsRow.cellAt h k (by omega)
    rw [Nat.zero_add, this]
    simp [nth, hk]
theorem OwnI.blk {w : World} {B n cap : Nat} {a : Option Addr} {xs : List Int} (h : OwnI w B (.slice a n cap) xs) : ∀ b off s, a = some ⟨b, off, s⟩ → B ≤ b ∧ b < w.heap.size := by
  intro b off s e
  subst e
  exact World.ownsRow.lt h b rfl
theorem OwnI.kept {w w' : World} {B : Nat} {v : Value} {xs : List Int} {row : Option Nat} (h : OwnI w B v xs) (hg : w.grownBy w' row) (hne : v.ownBlock = none ∨ v.ownBlock ≠ row) : OwnI w' B v xs := World.ownsRow.kept h hg hne
theorem OwnI.mono {w : World} {B B' : Nat} {v : Value} {xs : List Int} (h : OwnI w B v xs) (hB : B' ≤ B) : OwnI w B' v xs := by
  refine ⟨h.1, ?_⟩
  rcases h.2 with hn | ⟨g, cap, cur, e, hb, rest⟩
  · exact .inl hn
  · exact .inr ⟨g, cap, cur, e, by omega, rest⟩
theorem OwnI.below {w w' : World} {B B' : Nat} {v : Value} {xs : List Int} (h : OwnI w B v xs) (hb : Below B' w w') (hB : w.heap.size ≤ B') : OwnI w' B v xs := by
  refine ⟨h.1, ?_⟩
  rcases h.2 with hn | ⟨g, cap, cur, e, hb', hg, rest⟩
  · exact .inl hn
  · refine .inr ⟨g, cap, cur, e, hb', ?_, rest⟩
    rw [hb.block g (by have := (Array.getElem?_eq_some_iff.1 hg).1; omega)]
    exact hg
theorem ret_bool {a b : Bool} (h : a = b) : Ending.returned (.bool a) = .returned (.bool b) := by rw [h]
theorem ret_int {a b : Int} (h : a = b) : Ending.returned (.int .i64 a) = .returned (.int .i64 b) := by rw [h]
theorem val_int {a b : Int} (h : a = b) : Value.int .i64 a = .int .i64 b := by rw [h]
theorem grown_below {w w' : World} {g : Nat} (h : w.grownBy w' (some g)) (B : Nat) (hB : B ≤ g) (hs : B ≤ w.heap.size) : Below B w w' :=
  ⟨h.os, h.tape, h.output, h.size, fun k hk => h.block k (by omega) (by intro e; simp only [Option.some.injEq] at e; omega)⟩
theorem below_grown {w w' : World} {B : Nat} (h : Below B w w') (hB : w.heap.size ≤ B) (row : Option Nat) : w.grownBy w' row :=
  ⟨h.os, h.tape, h.output, h.size, fun k hk _ => h.block k (by omega)⟩
theorem bcell {W w1 : World} (hb : Below W.heap.size W w1) : (∀ b o, b < W.heap.size → w1.cell? ⟨b, o, none⟩ = W.cell? ⟨b, o, none⟩) ∧ (∀ b o, b < W.heap.size → w1.frozen? ⟨b, o, none⟩ = W.frozen? ⟨b, o, none⟩) :=
  ⟨fun b o h => hb.cell (p := ⟨b, o, none⟩) h, fun b o h => hb.frozen (p := ⟨b, o, none⟩) h⟩
theorem infoInt : (Try.prog.info? 3).map (fun i => (i.zero, i.size, i.bytes)) = some (some (.int .i64 0), 1, 8) := by kernel_rfl
theorem OwnI.setBelow {w : World} {B : Nat} {v : Value} {xs : List Int} (h : OwnI w B v xs) {p : Addr} (hp : p.block < B) (u : Value) : OwnI (w.setCell p u) B v xs := ownsRow_setCell_below h hp u
theorem OwnI.alloc {w : World} {B : Nat} {v : Value} {xs : List Int} (h : OwnI w B v xs) (o : Obj) : OwnI (w.alloc o) B v xs := h.below ((Below.refl _ _).alloc (Nat.le_refl _) o) (Nat.le_refl _)
theorem Below.mono' {B B' : Nat} {w w' : World} (h : Below B w w') (hB : B' ≤ B) : Below B' w w' := h.mono hB
/-- a block that holds two cells -/
def Box2 (w : World) (b : Nat) (u v : Value) : Prop := b < w.heap.size ∧ w.cell? ⟨b, 0, none⟩ = some u ∧ w.cell? ⟨b, 1, none⟩ = some v
theorem Box2.below {w w' : World} {b : Nat} {u v : Value} (h : Box2 w b u v) (hb : Below w.heap.size w w') : Box2 w' b u v :=
  ⟨Nat.lt_of_lt_of_le h.1 hb.size, (hb.cell (p := ⟨b, 0, none⟩) h.1).trans h.2.1, (hb.cell (p := ⟨b, 1, none⟩) h.1).trans h.2.2⟩
theorem Box2.new (w : World) (u v : Value) (t : TypeId) : Box2 (w.alloc (.cells #[u, v] t)) w.heap.size u v :=
  ⟨by simp, by simp, by simp⟩
theorem Box2.kept {w w' : World} {b : Nat} {u v : Value} {row : Option Nat} (h : Box2 w b u v) (hg : w.grownBy w' row) (hne : some b ≠ row) : Box2 w' b u v :=
  ⟨Nat.lt_of_lt_of_le h.1 hg.size, hg.cell h.2.1 hne, hg.cell h.2.2 hne⟩
theorem OwnI.lt {w : World} {B : Nat} {v : Value} {xs : List Int} (h : OwnI w B v xs) : ∀ b, v.ownBlock = some b → B ≤ b ∧ b < w.heap.size := World.ownsRow.lt h
theorem OwnI.cut {w : World} {B : Nat} {v : Value} {xs : List Int} (h : OwnI w B v xs) {U : Nat} (hU : w.heap.size ≤ U) : ∀ b, v.ownBlock = some b → B ≤ b ∧ b < U := fun b e => ⟨(h.lt b e).1, Nat.lt_of_lt_of_le (h.lt b e).2 hU⟩
/-- a block of two cells that may be written -/
def Var2 (w : World) (b : Nat) (u v : Value) : Prop := Box2 w b u v ∧ w.frozen? ⟨b, 0, none⟩ = false ∧ w.frozen? ⟨b, 1, none⟩ = false
theorem Var2.below {w w' : World} {b : Nat} {u v : Value} (h : Var2 w b u v) (hb : Below w.heap.size w w') : Var2 w' b u v :=
  ⟨h.1.below hb, (hb.frozen (p := ⟨b, 0, none⟩) h.1.1).trans h.2.1, (hb.frozen (p := ⟨b, 1, none⟩) h.1.1).trans h.2.2⟩
theorem Var2.new (w : World) (u v : Value) (t : TypeId) : Var2 (w.alloc (.cells #[u, v] t)) w.heap.size u v :=
  ⟨Box2.new w u v t, by simp, by simp⟩
theorem Var2.alloc {w : World} {b : Nat} {u v : Value} (h : Var2 w b u v) (o : Obj) : Var2 (w.alloc o) b u v := h.below ((Below.refl _ _).alloc (Nat.le_refl _) o)
theorem Var2.kept {w w' : World} {b : Nat} {u v : Value} {row : Option Nat} (h : Var2 w b u v) (hg : w.grownBy w' row) (hne : some b ≠ row) : Var2 w' b u v :=
  ⟨h.1.kept hg hne, (World.frozen?_of_block (w := w) (a := ⟨b, 0, none⟩) (hg.block b h.1.1 hne)).trans h.2.1, (World.frozen?_of_block (w := w) (a := ⟨b, 1, none⟩) (hg.block b h.1.1 hne)).trans h.2.2⟩
theorem Var2.set {w : World} {b : Nat} {u v : Value} (h : Var2 w b u v) (u' v' : Value) : Var2 ((w.setCell ⟨b, 0, none⟩ u').setCell ⟨b, 1, none⟩ v') b u' v' := by
  refine ⟨⟨by simpa using h.1.1, ?_, ?_⟩, by simpa using h.2.1, by simpa using h.2.2⟩
  · rw [World.cell?_setCell_other _ _ _ _ (by simp), World.cell?_setCell_same _ _ _ h.1.2.1]
  · rw [World.cell?_setCell_same _ _ _ (u := v) (by rw [World.cell?_setCell_other _ _ _ _ (by simp)]; exact h.1.2.2)]
theorem grown_set (w : World) (p : Addr) (u : Value) : w.grownBy (w.setCell p u) (some p.block) :=
  ⟨rfl, rfl, rfl, by simp, fun k hk hn => Below.heap_setCell w p u k (fun e => hn (by rw [e]))⟩
theorem Var2.set1 {w : World} {b : Nat} {u v : Value} (h : Var2 w b u v) (v' : Value) : Var2 (w.setCell ⟨b, 1, none⟩ v') b u v' := by
  refine ⟨⟨by simpa using h.1.1, ?_, ?_⟩, by simpa using h.2.1, by simpa using h.2.2⟩
  · rw [World.cell?_setCell_other _ _ _ _ (by simp)]; exact h.1.2.1
  · rw [World.cell?_setCell_same _ _ _ h.1.2.2]
theorem Box2.set {w : World} {b : Nat} {u v : Value} (h : Box2 w b u v) {p : Addr} (x : Value) (hne : b ≠ p.block) : Box2 (w.setCell p x) b u v :=
  h.kept (grown_set w p x) (by simpa using hne)
theorem Var2.other {w : World} {b : Nat} {u v : Value} (h : Var2 w b u v) {p : Addr} (x : Value) (hne : b ≠ p.block) : Var2 (w.setCell p x) b u v :=
  h.kept (grown_set w p x) (by simpa using hne)
theorem ne_own {v : Value} {b : Nat} (h : ∀ c, v.ownBlock = some c → c ≠ b) : some b ≠ v.ownBlock := fun e => h b e.symm rfl
theorem grown_alloc_set {w w1 : World} {r : Option Nat} {o : Obj} (h : (w.alloc o).grownBy w1 r) : w.grownBy w1 r :=
  ⟨h.os, h.tape, h.output, by have := h.size; simp at this; omega, fun k hk hn => (h.block k (by simp; omega) hn).trans (Below.heap_alloc w o k hk)⟩
theorem grown_trans {w w1 w2 : World} {r : Option Nat} (h1 : w.grownBy w1 r) (h2 : w1.grownBy w2 r) : w.grownBy w2 r :=
  ⟨h2.os.trans h1.os, h2.tape.trans h1.tape, h2.output.trans h1.output, Nat.le_trans h1.size h2.size, fun k hk hn => (h2.block k (by have := h1.size; omega) hn).trans (h1.block k hk hn)⟩
theorem OwnI.nil (w : World) (B : Nat) : OwnI w B (.slice none 0 0) [] := World.ownsRow_nil _ _ _ _
theorem below_of_grown {w w' : World} {v : Value} {B : Nat} (hg : w.grownBy w' v.ownBlock) (hB : ∀ b, v.ownBlock = some b → B ≤ b) (hs : B ≤ w.heap.size) : Below B w w' :=
  ⟨hg.os, hg.tape, hg.output, hg.size, fun k hk => hg.block k (by omega) (fun e => by have := hB k e.symm; omega)⟩

def szF (left : Int) (n : Nat) : Int := if left - n < 0 then -1 else left - n
theorem szIntS_any (a : Option Addr) (n cap : Nat) (l : Int) (w : World) (h0 : 0 ≤ l) (h1 : l ≤ 1048576) (hn : n ≤ 9223372036854775807) :
    Calls Try.prog 52 #[.slice a n cap, .int .i64 l] w fun e w' => e = .returned (.int .i64 (szF l n)) ∧ w = w' := by
  by_cases h : l - n < 0
  · go_enter Try.func52, Try.ntmps52
    go_wp2
    go_ret
    exact ⟨ret_int (by simp [szF, h]), rfl⟩
  · go_enter Try.func52, Try.ntmps52
    go_wp2
    go_ret
    exact ⟨ret_int (by rw [szF, if_neg (by omega)]), rfl⟩

theorem szTable_any (n m : Int) (a : Option Addr) (len cap : Nat) (l : Int) (w : World) (h0 : 0 ≤ l) (h1 : l ≤ 1048576) (hn : len ≤ 9223372036854775807) :
    Calls Try.prog 15 #[.agg #[.int .i64 n, .int .i64 m, .slice a len cap], .int .i64 l] w fun e w' => e = .returned (.int .i64 (szF l len)) ∧ Below w.heap.size w w' := by
  by_cases h : l - len < 0
  · have hs : szF l len = -1 := by simp [szF, h]
    rw [hs]
    have HS := Lib.hid hs
    clear hs
    go_enter Try.func15, Try.ntmps15
    go_wp2_with (go_at_call 52; refine (szIntS_any _ _ _ _ _ h0 h1 hn).mono ?_; rintro e w' ⟨rfl, rfl⟩; rw [HS.out])
    go_ret
    exact ⟨rfl, (Below.refl _ _).alloc (Nat.le_refl _) _⟩
  · have hs : szF l len = l - len := by rw [szF, if_neg (by omega)]
    have hp : 0 ≤ szF l len := by omega
    clear hs
    go_enter Try.func15, Try.ntmps15
    go_wp2_with (go_at_call 52; refine (szIntS_any _ _ _ _ _ h0 h1 hn).mono ?_; rintro e w' ⟨rfl, rfl⟩)
    go_ret
    exact ⟨rfl, (Below.refl _ _).alloc (Nat.le_refl _) _⟩
theorem szTable_ok {n m : Int} {a : Option Addr} {len cap : Nat} {l : Int} {w : World} (h1 : l ≤ 1048576) (h : len ≤ l) :
    Calls Try.prog 15 #[.agg #[.int .i64 n, .int .i64 m, .slice a len cap], .int .i64 l] w fun e w' => e = .returned (.int .i64 (l - len)) ∧ Below w.heap.size w w' :=
  (szTable_any n m a len cap l w (by omega) h1 (by omega)).mono (fun e w' hh => ⟨by rw [hh.1, szF, if_neg (by omega)], hh.2⟩)
theorem szTable_no {n m : Int} {a : Option Addr} {len cap : Nat} {l : Int} {w : World} (h0 : 0 ≤ l) (h1 : l ≤ 1048576) (h : l < len) (hl : len ≤ 9223372036854775807) :
    Calls Try.prog 15 #[.agg #[.int .i64 n, .int .i64 m, .slice a len cap], .int .i64 l] w fun e w' => e = .returned (.int .i64 (-1)) ∧ Below w.heap.size w w' :=
  (szTable_any n m a len cap l w h0 h1 hl).mono (fun e w' hh => ⟨by rw [hh.1, szF, if_pos (by omega)], hh.2⟩)

theorem set_step (xs : List Int) (k : Nat) (h : k < xs.length) :
    ((xs.take k ++ List.replicate (xs.length - k) (0:Int)).map (Value.int .i64)).set k (.int .i64 (nth xs k)) = (xs.take (k+1) ++ List.replicate (xs.length - (k+1)) (0:Int)).map (Value.int .i64) := by
  apply List.ext_getElem?
  intro j
  have hk : (xs.take k).length = k := by simp; omega
  have hk1 : (xs.take (k+1)).length = k+1 := by simp; omega
  rw [List.getElem?_set]
  by_cases hj : k = j
  · subst hj
    rw [if_pos rfl, if_pos (by simp; omega), List.getElem?_map, List.getElem?_append_left (by omega)]
    simp [nth, h]
  · simp only [hj, if_false, List.getElem?_map, List.getElem?_append, hk, hk1, List.getElem?_take, List.getElem?_replicate]
    by_cases h1 : j < k
    · have h2 : j < k + 1 := by omega
      simp [h1, h2]
    · have h2 : ¬ j < k + 1 := by omega
      have h3 : j - k < xs.length - k ↔ j - (k+1) < xs.length - (k+1) := by omega
      simp [h1, h2, h3]
theorem toIntS_any (a : Option Addr) (xs : List Int) (cap : Nat) (w : World) (hx : Rd w a xs) (hn : xs.length ≤ 1048576) :
    Calls Try.prog 38 #[.slice a xs.length cap] w fun e w' => ∃ a' cap', e = .returned (.slice a' xs.length cap') ∧ OwnI w' w.heap.size (.slice a' xs.length cap') xs ∧ Below w.heap.size w w' := by
  obtain ⟨i0, hi, hz0, hz1, hz2⟩ := info_parts infoInt
  go_enter Try.func38, Try.ntmps38
  go_wp2_with (at_make; refine wpList_make_full _ rfl (.tmp 6) (.tmp 6) 22 rfl w.heap.size 3 i0 (.int .i64 0) 1 Try.underlying22 hi hz0 hz1 .i64 .i64 _ _ xs.length rfl rfl rfl rfl (by rw [hz2]; omega) (by unfold maxLen; omega) (Nat.le_refl _) ?_; intro w1 hown hgrow)
  have hb0 : Below w.heap.size w w1 := (Below.refl _ _).grown hgrow (Nat.le_refl _) (fun k h => by cases h)
  have hown0 : w1.ownsRow w.heap.size 3 1 (.slice (some ⟨w.heap.size, 0, none⟩) xs.length xs.length) xs.length ((xs.take 0 ++ List.replicate (xs.length - 0) (0:Int)).map (Value.int .i64)) := by
    simpa [Value.cells, toList_madeCells_one] using hown
  clear hown hgrow
  have hz : w.heap.size < w1.heap.size := by
    have := (World.ownsRow.lt hown0 w.heap.size rfl).2
    omega
  go_loopw [4] (fun i wr => ∃ k : Nat, k ≤ xs.length ∧ i = .int .i64 k ∧ wr.ownsRow w.heap.size 3 1 (.slice (some ⟨w.heap.size, 0, none⟩) xs.length xs.length) xs.length ((xs.take k ++ List.replicate (xs.length - k) (0:Int)).map (Value.int .i64)) ∧ Below w.heap.size w wr) (fun i _ => xs.length - (intOf i).toNat)
  case atStart => exact ⟨0, Nat.zero_le _, rfl, hown0, hb0⟩
  case round =>
    obtain ⟨k, hk, rfl, hown, hb⟩ := hrel
    by_cases hlt : k < xs.length
    · obtain ⟨b, off, rfl, hbl, hc⟩ := hx.cell k hlt
      have hc1 := (hb.cell (p := ⟨b, off + k, none⟩) hbl).trans hc
      have hst := World.ownsRow.stored hown k (.int .i64 (nth xs k))
      rw [set_step xs k hlt] at hst
      have hcc := World.ownsRow.cellAt hown k (by omega)
      have hfr := World.ownsRow.frozenAt hown k
      have hcc' : ∃ u, wr.cell? ⟨w.heap.size, k, none⟩ = some u := by
        rw [hcc]
        exact ⟨_, List.getElem?_eq_getElem (by simp; omega)⟩
      obtain ⟨u, hu⟩ := hcc'
      have Hst := Lib.hid hst
      clear hst hcc hown hc
      go_wp2
      go_roundw
      case rel => exact ⟨k + 1, by omega, by go_num, Hst.out.1, hb.setCell (Nat.le_refl _) _⟩
      case measure => simp [intOf]; omega
    · obtain rfl : k = xs.length := by omega
      go_wp2
      go_ret
      refine ⟨_, _, rfl, ?_, hb⟩
      have : xs.take xs.length ++ List.replicate (xs.length - xs.length) (0:Int) = xs := by simp
      rw [this] at hown
      exact hown

/-- a block that begins with these three cells -/
def Box3 (w : World) (b : Nat) (u v x : Value) : Prop := b < w.heap.size ∧ w.cell? ⟨b, 0, none⟩ = some u ∧ w.cell? ⟨b, 1, none⟩ = some v ∧ w.cell? ⟨b, 2, none⟩ = some x
theorem Box3.below {w w' : World} {b : Nat} {u v x : Value} (h : Box3 w b u v x) (hb : Below w.heap.size w w') : Box3 w' b u v x :=
  ⟨Nat.lt_of_lt_of_le h.1 hb.size, (hb.cell (p := ⟨b, 0, none⟩) h.1).trans h.2.1, (hb.cell (p := ⟨b, 1, none⟩) h.1).trans h.2.2.1, (hb.cell (p := ⟨b, 2, none⟩) h.1).trans h.2.2.2⟩
theorem Box3.new (w : World) (u v x : Value) (t : TypeId) : Box3 (w.alloc (.cells #[u, v, x] t)) w.heap.size u v x := ⟨by simp, by simp, by simp, by simp⟩
theorem Box3.kept {w w' : World} {b : Nat} {u v x : Value} {row : Option Nat} (h : Box3 w b u v x) (hg : w.grownBy w' row) (hne : some b ≠ row) : Box3 w' b u v x :=
  ⟨Nat.lt_of_lt_of_le h.1 hg.size, hg.cell h.2.1 hne, hg.cell h.2.2.1 hne, hg.cell h.2.2.2 hne⟩
theorem Box3.alloc {w : World} {b : Nat} {u v x : Value} (h : Box3 w b u v x) (o : Obj) : Box3 (w.alloc o) b u v x := h.below ((Below.refl _ _).alloc (Nat.le_refl _) o)
theorem Box3.set {w : World} {b : Nat} {u v x : Value} (h : Box3 w b u v x) {p : Addr} (y : Value) (hne : b ≠ p.block) : Box3 (w.setCell p y) b u v x :=
  h.kept (grown_set w p y) (by simpa using hne)
/-- three cells that may be written -/
def Var3 (w : World) (b : Nat) (u v x : Value) : Prop := Box3 w b u v x ∧ w.frozen? ⟨b, 0, none⟩ = false ∧ w.frozen? ⟨b, 1, none⟩ = false ∧ w.frozen? ⟨b, 2, none⟩ = false
theorem Var3.new (w : World) (u v x : Value) (t : TypeId) : Var3 (w.alloc (.cells #[u, v, x] t)) w.heap.size u v x := ⟨Box3.new w u v x t, by simp, by simp, by simp⟩
theorem Var3.below {w w' : World} {b : Nat} {u v x : Value} (h : Var3 w b u v x) (hb : Below w.heap.size w w') : Var3 w' b u v x :=
  ⟨h.1.below hb, (hb.frozen (p := ⟨b, 0, none⟩) h.1.1).trans h.2.1, (hb.frozen (p := ⟨b, 1, none⟩) h.1.1).trans h.2.2.1, (hb.frozen (p := ⟨b, 2, none⟩) h.1.1).trans h.2.2.2⟩
theorem Var3.alloc {w : World} {b : Nat} {u v x : Value} (h : Var3 w b u v x) (o : Obj) : Var3 (w.alloc o) b u v x := h.below ((Below.refl _ _).alloc (Nat.le_refl _) o)
theorem Var3.kept {w w' : World} {b : Nat} {u v x : Value} {row : Option Nat} (h : Var3 w b u v x) (hg : w.grownBy w' row) (hne : some b ≠ row) : Var3 w' b u v x :=
  ⟨h.1.kept hg hne, (World.frozen?_of_block (w := w) (a := ⟨b, 0, none⟩) (hg.block b h.1.1 hne)).trans h.2.1, (World.frozen?_of_block (w := w) (a := ⟨b, 1, none⟩) (hg.block b h.1.1 hne)).trans h.2.2.1, (World.frozen?_of_block (w := w) (a := ⟨b, 2, none⟩) (hg.block b h.1.1 hne)).trans h.2.2.2⟩
theorem Var3.other {w : World} {b : Nat} {u v x : Value} (h : Var3 w b u v x) {p : Addr} (y : Value) (hne : b ≠ p.block) : Var3 (w.setCell p y) b u v x :=
  h.kept (grown_set w p y) (by simpa using hne)
theorem Var3.set0 {w : World} {b : Nat} {u v x : Value} (h : Var3 w b u v x) (y : Value) : Var3 (w.setCell ⟨b, 0, none⟩ y) b y v x :=
  ⟨⟨by simpa using h.1.1, World.cell?_setCell_same _ _ _ h.1.2.1, by rw [World.cell?_setCell_other _ _ _ _ (by simp)]; exact h.1.2.2.1, by rw [World.cell?_setCell_other _ _ _ _ (by simp)]; exact h.1.2.2.2⟩, by simpa using h.2.1, by simpa using h.2.2.1, by simpa using h.2.2.2⟩
theorem Var3.set1 {w : World} {b : Nat} {u v x : Value} (h : Var3 w b u v x) (y : Value) : Var3 (w.setCell ⟨b, 1, none⟩ y) b u y x :=
  ⟨⟨by simpa using h.1.1, by rw [World.cell?_setCell_other _ _ _ _ (by simp)]; exact h.1.2.1, World.cell?_setCell_same _ _ _ h.1.2.2.1, by rw [World.cell?_setCell_other _ _ _ _ (by simp)]; exact h.1.2.2.2⟩, by simpa using h.2.1, by simpa using h.2.2.1, by simpa using h.2.2.2⟩
theorem Var3.set2 {w : World} {b : Nat} {u v x : Value} (h : Var3 w b u v x) (y : Value) : Var3 (w.setCell ⟨b, 2, none⟩ y) b u v y :=
  ⟨⟨by simpa using h.1.1, by rw [World.cell?_setCell_other _ _ _ _ (by simp)]; exact h.1.2.1, by rw [World.cell?_setCell_other _ _ _ _ (by simp)]; exact h.1.2.2.1, World.cell?_setCell_same _ _ _ h.1.2.2.2⟩, by simpa using h.2.1, by simpa using h.2.2.1, by simpa using h.2.2.2⟩
theorem Var3.set {w : World} {b : Nat} {u v x : Value} (h : Var3 w b u v x) (u' v' x' : Value) : Var3 (((w.setCell ⟨b, 0, none⟩ u').setCell ⟨b, 1, none⟩ v').setCell ⟨b, 2, none⟩ x') b u' v' x' := ((h.set0 u').set1 v').set2 x'

theorem toTable_any (n m : Int) (a : Option Addr) (xs : List Int) (cap : Nat) (w : World) (hx : Rd w a xs) (hn : xs.length ≤ 1048576) :
    Calls Try.prog 17 #[.agg #[.int .i64 n, .int .i64 m, .slice a xs.length cap]] w fun e w' => ∃ a' cap', e = .returned (.agg #[.int .i64 n, .int .i64 m, .slice a' xs.length cap']) ∧ OwnI w' w.heap.size (.slice a' xs.length cap') xs ∧ Below w.heap.size w w' := by
  go_enter Try.func17, Try.ntmps17
  go_wp2_with fail
  refine (toIntS_any _ _ _ _ (hx.below (by repeat (first | exact Below.refl _ _ | assumption | refine Below.alloc ?_ (by first | exact Nat.le_refl _ | (simp only [World.size_alloc, World.size_setCell, World.size_drew]; omega) | omega) _ | refine Below.setCell ?_ (by first | exact Nat.le_refl _ | (simp only [World.size_alloc, World.size_setCell, World.size_drew]; omega) | omega) _ | refine Below.drew ?_))) hn).mono ?_
  rintro e w1 ⟨a', cap', rfl, hown, hb⟩
  obtain ⟨hc, hf⟩ := bcell hb
  have hz := hb.size
  simp only [World.size_alloc, World.size_setCell] at hz
  go_wp2
  have hown' := (((((hown.setBelow (p := ⟨w.heap.size + 1 + 1, 2, none⟩) (by first | (simp only [World.size_alloc, World.size_setCell, World.size_drew]; omega) | omega) (.slice a' xs.length cap')).setBelow (p := ⟨w.heap.size + 1, 0, none⟩) (by first | (simp only [World.size_alloc, World.size_setCell, World.size_drew]; omega) | omega) (.int .i64 n)).setBelow (p := ⟨w.heap.size + 1, 1, none⟩) (by first | (simp only [World.size_alloc, World.size_setCell, World.size_drew]; omega) | omega) (.int .i64 m)).setBelow (p := ⟨w.heap.size + 1, 2, none⟩) (by first | (simp only [World.size_alloc, World.size_setCell, World.size_drew]; omega) | omega) (.slice a' xs.length cap'))).mono (B' := w.heap.size) (by first | (simp only [World.size_alloc, World.size_setCell, World.size_drew]; omega) | omega)
  have hb' : Below w.heap.size w w1 := Below.trans (by repeat (first | exact Below.refl _ _ | assumption | refine Below.alloc ?_ (by first | exact Nat.le_refl _ | (simp only [World.size_alloc, World.size_setCell, World.size_drew]; omega) | omega) _ | refine Below.setCell ?_ (by first | exact Nat.le_refl _ | (simp only [World.size_alloc, World.size_setCell, World.size_drew]; omega) | omega) _ | refine Below.drew ?_)) (hb.mono (by first | (simp only [World.size_alloc, World.size_setCell, World.size_drew]; omega) | omega))
  refine bodyPost_ret (v := .agg #[.int .i64 n, .int .i64 m, .slice a' xs.length cap']) (by simp [results, Try.results17, go_sem, hc]) rfl ⟨a', cap', rfl, hown', ?_⟩
  exact (((hb'.setCell (by first | exact Nat.le_refl _ | (simp only [World.size_alloc, World.size_setCell, World.size_drew]; omega) | omega) _).setCell (by first | exact Nat.le_refl _ | (simp only [World.size_alloc, World.size_setCell, World.size_drew]; omega) | omega) _).setCell (by first | exact Nat.le_refl _ | (simp only [World.size_alloc, World.size_setCell, World.size_drew]; omega) | omega) _).setCell (by first | exact Nat.le_refl _ | (simp only [World.size_alloc, World.size_setCell, World.size_drew]; omega) | omega) _

def eqL (xs ys : List Int) : Bool := decide (xs = ys)
theorem eqL_self (xs : List Int) : eqL xs xs = true := by simp [eqL]

theorem eqIntS_any (a b : Option Addr) (xs ys : List Int) (ca cb : Nat) (w : World) (hx : Rd w a xs) (hy : Rd w b ys) :
    Calls Try.prog 22 #[.slice a xs.length ca, .slice b ys.length cb] w fun e w' => e = .returned (.bool (eqL xs ys)) ∧ Below w.heap.size w w' := by
  have hlx := hx.len
  have hly := hy.len
  by_cases hl : xs.length = ys.length
  · have hl' : ((xs.length : Int) != (ys.length : Int)) = false := by simp [hl]
    go_enter Try.func22, Try.ntmps22
    have HL := Lib.hid hl
    clear hl
    go_wp2_with fail
    go_loopw [5] (fun i wr => ∃ k : Nat, k ≤ xs.length ∧ i = .int .i64 k ∧ xs.take k = ys.take k ∧ Below w.heap.size w wr) (fun i _ => xs.length - (intOf i).toNat)
    case atStart => exact ⟨0, Nat.zero_le _, rfl, rfl, Below.refl _ _⟩
    case round =>
      obtain ⟨k, hk, rfl, htk, hb⟩ := hrel
      have HT := Lib.hid htk
      clear htk
      by_cases hlt : k < xs.length
      · have hlt' : k < ys.length := by rw [← HL.out]; exact hlt
        obtain ⟨b1, o1, rfl, hb1, hc1⟩ := (hx.below hb).cell k hlt
        obtain ⟨b2, o2, rfl, hb2, hc2⟩ := (hy.below hb).cell k hlt'
        by_cases he : nth xs k = nth ys k
        · have he' : (nth xs k != nth ys k) = false := by simp [he]
          have HE := Lib.hid he
          clear he
          go_wp2_with fail
          go_quiet (fail)
          go_wp2_with fail
          go_roundw
          case rel =>
            refine ⟨k + 1, by omega, by go_num, ?_, by exact hb.trans (Joins.below_draws _ _ _)⟩
            rw [List.take_succ_eq_append_getElem hlt, List.take_succ_eq_append_getElem hlt', HT.out, ← nth_get, ← nth_get, HE.out]
          case measure => simp [intOf]; omega
        · have he' : (nth xs k != nth ys k) = true := by simp [he]
          have hne : eqL xs ys = false := by
            simp only [eqL, decide_eq_false_iff_not]
            intro e
            subst e
            exact he rfl
          have HN := Lib.hid hne
          clear he hne
          go_wp2_with fail
          go_quiet (fail)
          go_wp2_with fail
          go_ret
          exact ⟨ret_bool HN.out.symm, hb.trans (Joins.below_draws _ _ _)⟩
      · go_wp2_with fail
        go_ret
        refine ⟨ret_bool ?_, hb⟩
        have h1 := HT.out
        rw [List.take_of_length_le (by omega), List.take_of_length_le (by rw [← HL.out]; omega)] at h1
        simp [eqL, h1]
  · have hl' : ((xs.length : Int) != (ys.length : Int)) = true := by simp; omega
    have hne : eqL xs ys = false := by
      simp only [eqL, decide_eq_false_iff_not]
      intro e
      exact hl (by rw [e])
    have HN := Lib.hid hne
    clear hl hne
    go_enter Try.func22, Try.ntmps22
    go_wp2_with fail
    go_ret
    exact ⟨ret_bool HN.out.symm, Below.refl _ _⟩

theorem eqTable_same (n m : Int) (a b : Option Addr) (xs : List Int) (ca cb : Nat) (w : World) (hx : Rd w a xs) (hy : Rd w b xs) :
    Calls Try.prog 19 #[.agg #[.int .i64 n, .int .i64 m, .slice a xs.length ca], .agg #[.int .i64 n, .int .i64 m, .slice b xs.length cb]] w fun e w' => e = .returned (.bool true) ∧ Below w.heap.size w w' := by
  go_enter Try.func19, Try.ntmps19
  go_wp2_with fail
  refine (eqIntS_any _ _ xs xs _ _ _ (hx.below (by repeat (first | exact Below.refl _ _ | assumption | refine Below.alloc ?_ (by first | exact Nat.le_refl _ | (simp only [World.size_alloc, World.size_setCell, World.size_drew]; omega) | omega) _ | refine Below.setCell ?_ (by first | exact Nat.le_refl _ | (simp only [World.size_alloc, World.size_setCell, World.size_drew]; omega) | omega) _ | refine Below.drew ?_))) (hy.below (by repeat (first | exact Below.refl _ _ | assumption | refine Below.alloc ?_ (by first | exact Nat.le_refl _ | (simp only [World.size_alloc, World.size_setCell, World.size_drew]; omega) | omega) _ | refine Below.setCell ?_ (by first | exact Nat.le_refl _ | (simp only [World.size_alloc, World.size_setCell, World.size_drew]; omega) | omega) _ | refine Below.drew ?_)))).mono ?_
  rintro e w1 ⟨rfl, hb⟩
  rw [eqL_self]
  go_wp2_with fail
  go_ret
  exact ⟨rfl, Below.trans (by repeat (first | exact Below.refl _ _ | assumption | refine Below.alloc ?_ (by first | exact Nat.le_refl _ | (simp only [World.size_alloc, World.size_setCell, World.size_drew]; omega) | omega) _ | refine Below.setCell ?_ (by first | exact Nat.le_refl _ | (simp only [World.size_alloc, World.size_setCell, World.size_drew]; omega) | omega) _ | refine Below.drew ?_)) (hb.mono (by first | (simp only [World.size_alloc, World.size_setCell, World.size_drew]; omega) | omega))⟩

theorem wrap64_small (n : Int) (h0 : -9223372036854775808 ≤ n) (h1 : n ≤ 9223372036854775807) : IntKind.i64.wrap n = n := by
  simp only [IntKind.wrap, IntKind.bits, IntKind.signed]
  simp
  omega
theorem i64_wrap (n : Int) : IntKind.i64.wrap n = wrap64 n := IntWalk.i64_left n
theorem ofInt_i64 (a : Nat) (ha : a < 9223372036854775808) : (BitVec.ofInt 64 (a : Int)).toNat = a := by
  simp
  omega
theorem and_nat (a b : Nat) (ha : a < 9223372036854775808) (hb : b < 9223372036854775808) : bits .and .i64 (a : Int) (b : Int) = ((a &&& b : Nat) : Int) := by
  have hx : a &&& b < 2 ^ 63 := Nat.and_lt_two_pow _ (by omega)
  show IntKind.i64.wrap ((BitVec.ofInt 64 (a : Int) &&& BitVec.ofInt 64 (b : Int)).toNat : Int) = _
  rw [BitVec.toNat_and, ofInt_i64 a ha, ofInt_i64 b hb, wrap64_small _ (by omega) (by omega)]
theorem or_nat (a b : Nat) (ha : a < 9223372036854775808) (hb : b < 9223372036854775808) : bits .or .i64 (a : Int) (b : Int) = ((a ||| b : Nat) : Int) := by
  have hx : a ||| b < 2 ^ 63 := Nat.or_lt_two_pow (by omega) (by omega)
  show IntKind.i64.wrap ((BitVec.ofInt 64 (a : Int) ||| BitVec.ofInt 64 (b : Int)).toNat : Int) = _
  rw [BitVec.toNat_or, ofInt_i64 a ha, ofInt_i64 b hb, wrap64_small _ (by omega) (by omega)]
/-- a set without the elements of another one -/
def sub (a b : Nat) : Nat := a ^^^ (a &&& b)
theorem testBit_sub (a b i : Nat) : (sub a b).testBit i = (a.testBit i && !b.testBit i) := by
  simp [sub, Nat.testBit_xor, Nat.testBit_and]
  cases a.testBit i <;> cases b.testBit i <;> rfl
theorem sub_lt {a b n : Nat} (h : a < 2 ^ n) : sub a b < 2 ^ n := by
  unfold sub
  exact Nat.xor_lt_two_pow h (by rw [Nat.and_comm]; exact Nat.and_lt_two_pow _ h)
theorem sub_nat (a b : Nat) (ha : a < 9223372036854775808) (hb : b < 9223372036854775808) : bits .andNot .i64 (a : Int) (b : Int) = ((sub a b : Nat) : Int) := by
  have hs : sub a b < 2 ^ 63 := sub_lt (by omega)
  show IntKind.i64.wrap ((BitVec.ofInt 64 (a : Int) &&& ~~~BitVec.ofInt 64 (b : Int)).toNat : Int) = _
  have e : (BitVec.ofInt 64 (a : Int) &&& ~~~BitVec.ofInt 64 (b : Int)).toNat = sub a b := by
    apply Nat.eq_of_testBit_eq
    intro i
    rw [BitVec.testBit_toNat, BitVec.getLsbD_and, BitVec.getLsbD_not, testBit_sub, ← BitVec.testBit_toNat, ← BitVec.testBit_toNat, ofInt_i64 a ha, ofInt_i64 b hb]
    by_cases hi : i < 64
    · simp [hi]
    · have : a.testBit i = false := Nat.testBit_lt_two_pow (Nat.lt_of_lt_of_le (by omega : a < 2 ^ 64) (Nat.pow_le_pow_right (by omega) (by omega)))
      simp [this]
  rw [e, wrap64_small _ (by omega) (by omega)]
theorem shr_nat (s i : Nat) (hs : s < 9223372036854775808) : (s : Int) / (2 ^ min i 64) = ((s >>> i : Nat) : Int) := by
  rw [Nat.shiftRight_eq_div_pow]
  by_cases h : i ≤ 64
  · rw [Nat.min_eq_left h]
    simp
  · rw [Nat.min_eq_right (by omega)]
    have : 2 ^ 64 ≤ 2 ^ i := Nat.pow_le_pow_right (by omega) (by omega)
    rw [Nat.div_eq_of_lt (by omega)]
    omega
theorem bit_and (s i : Nat) (hs : s < 9223372036854775808) : (bits .and .i64 ((s >>> i : Nat) : Int) 1 == 1) = s.testBit i := by
  have h1 : s >>> i ≤ s := by rw [Nat.shiftRight_eq_div_pow]; exact Nat.div_le_self _ _
  have := and_nat (s >>> i) 1 (by omega) (by omega)
  rw [show ((1 : Nat) : Int) = 1 from rfl] at this
  rw [this, Nat.testBit, Nat.and_one_is_mod, Nat.and_comm, Nat.and_one_is_mod]
  rcases Nat.mod_two_eq_zero_or_one (s >>> i) with h | h <;> simp [h]
theorem bit_mod (s i : Nat) : (((s >>> i : Nat) : Int) % 2 == 1) = s.testBit i := by
  rw [Nat.testBit, Nat.and_comm, Nat.and_one_is_mod]
  rcases Nat.mod_two_eq_zero_or_one (s >>> i) with h | h
  · have h2 : ((s >>> i : Nat) : Int) % 2 = 0 := by omega
    rw [h2, h]; rfl
  · have h2 : ((s >>> i : Nat) : Int) % 2 = 1 := by omega
    rw [h2, h]; rfl
theorem bit_tmod (s i : Nat) : (((s >>> i : Nat) : Int).tmod 2 == 1) = s.testBit i := by
  rw [Int.tmod_eq_emod_of_nonneg (Int.natCast_nonneg _), bit_mod]
/-- is i in the set s? -/
def hasB (s i : Int) : Bool := s.toNat.testBit i.toNat
theorem has_and {s i : Int} (h0 : 0 ≤ s) (h1 : s ≤ 9223372036854775807) (hi : 0 ≤ i) : (bits .and .i64 (s / 2 ^ min i.toNat 64) 1 == 1) = hasB s i := by
  obtain ⟨S, rfl⟩ := Int.eq_ofNat_of_zero_le h0
  rw [shr_nat S _ (by omega), bit_and S _ (by omega)]
  rfl
theorem has_mod {s i : Int} (h0 : 0 ≤ s) (h1 : s ≤ 9223372036854775807) (hi : 0 ≤ i) : ((s / 2 ^ min i.toNat 64).tmod 2 == 1) = hasB s i := by
  obtain ⟨S, rfl⟩ := Int.eq_ofNat_of_zero_le h0
  rw [shr_nat S _ (by omega), bit_tmod S]
  rfl
theorem pow_w {k : Nat} (h : k < 62) : wrap64 (2 ^ k) = ((2 ^ k : Nat) : Int) := by
  have : 2 ^ k ≤ 2 ^ 61 := Nat.pow_le_pow_right (by omega) (by omega)
  rw [show ((2:Int) ^ k) = ((2 ^ k : Nat) : Int) by simp]
  generalize hp : 2 ^ k = p at *
  exact IntWalk.wrap64_in _ ⟨by omega, by omega⟩
theorem or_bit {b k : Nat} (hb : b < 4611686018427387904) (hk : k < 62) : bits .or .i64 (b : Int) (wrap64 (2 ^ k)) = ((b ||| 2 ^ k : Nat) : Int) := by
  rw [pow_w hk]
  have : 2 ^ k ≤ 2 ^ 61 := Nat.pow_le_pow_right (by omega) (by omega)
  exact or_nat _ _ (by omega) (by omega)
theorem or_i {a b : Int} (ha : 0 ≤ a) (ha1 : a < 9223372036854775808) (hb : 0 ≤ b) (hb1 : b < 9223372036854775808) : bits .or .i64 a b = ((a.toNat ||| b.toNat : Nat) : Int) := by
  obtain ⟨A, rfl⟩ := Int.eq_ofNat_of_zero_le ha
  obtain ⟨B, rfl⟩ := Int.eq_ofNat_of_zero_le hb
  exact or_nat A B (by omega) (by omega)
theorem sub_i {a b : Int} (ha : 0 ≤ a) (ha1 : a < 9223372036854775808) (hb : 0 ≤ b) (hb1 : b < 9223372036854775808) : bits .andNot .i64 a b = ((sub a.toNat b.toNat : Nat) : Int) := by
  obtain ⟨A, rfl⟩ := Int.eq_ofNat_of_zero_le ha
  obtain ⟨B, rfl⟩ := Int.eq_ofNat_of_zero_le hb
  exact sub_nat A B (by omega) (by omega)
theorem or_lt {a b n : Nat} (ha : a < 2 ^ n) (hb : b < 2 ^ n) : a ||| b < 2 ^ n := Nat.or_lt_two_pow ha hb
theorem two_lt {k n : Nat} (h : k < n) : 2 ^ k < 2 ^ n := Nat.pow_lt_pow_right (by omega) h
theorem testBit_two (k i : Nat) : (2 ^ k).testBit i = decide (k = i) := Nat.testBit_two_pow

/-- the list of f 0, .., f (k - 1) -/
def fmap (f : Nat → Int) (k : Nat) : List Int := (List.range k).map f
theorem fmap_len (f : Nat → Int) (k : Nat) : (fmap f k).length = k := by simp [fmap]
theorem fmap_nth (f : Nat → Int) {k i : Nat} (h : i < k) : nth (fmap f k) i = f i := by simp [nth, fmap, h]
theorem fmap_succ (f : Nat → Int) (k : Nat) : fmap f (k+1) = fmap f k ++ [f k] := by simp [fmap, List.range_succ]
/-- one store more into a row that was made -/
theorem fill_step (f : Nat → Int) (m k : Nat) (h : k < m) :
    ((fmap f k ++ List.replicate (m - k) (0:Int)).map (Value.int .i64)).set k (.int .i64 (f k)) = (fmap f (k+1) ++ List.replicate (m - (k+1)) (0:Int)).map (Value.int .i64) := by
  apply List.ext_getElem?
  intro j
  rw [List.getElem?_set]
  by_cases hj : k = j
  · subst hj
    rw [if_pos rfl, if_pos (by simp [fmap_len]; omega), List.getElem?_map, List.getElem?_append_left (by rw [fmap_len]; omega)]
    simp [fmap]
  · simp only [hj, if_false, List.getElem?_map, List.getElem?_append, fmap_len, List.getElem?_replicate]
    by_cases h1 : j < k
    · have h2 : j < k + 1 := by omega
      simp [h1, h2, fmap]
    · have h2 : ¬ j < k + 1 := by omega
      have h3 : j - k < m - k ↔ j - (k+1) < m - (k+1) := by omega
      simp [h1, h2, h3]
theorem fill_end (f : Nat → Int) (m : Nat) : fmap f m ++ List.replicate (m - m) (0:Int) = fmap f m := by simp
/-- the row that a make of m integers has made -/
theorem made_ints {w1 : World} {B : Nat} {v : Value} {m : Nat} (f : Nat → Int) (h : w1.ownsRow B 3 1 v m (madeCells (Value.int .i64 0).cells (m * 1)).toList) :
    w1.ownsRow B 3 1 v m ((fmap f 0 ++ List.replicate (m - 0) (0:Int)).map (Value.int .i64)) := by
  simpa [Value.cells, toList_madeCells_one, fmap] using h

/-- a text as bytes; a plain function, which the walk leaves alone -/
def tB (L : List UInt8) : ByteArray := ⟨L.toArray⟩
theorem tB_app (L M : List UInt8) : tB L ++ tB M = tB (L ++ M) := by
  apply ByteArray.ext
  simp [tB]
theorem tB_size (L : List UInt8) : (tB L).size = L.length := by simp [tB, ByteArray.size]
theorem tB_add (L : List UInt8) (c : UInt8) (h : L.length ≤ 1048576) (W : World) : (Op.stringOp .add (tB L) ⟨#[c]⟩).run Try.prog W = .ok (.string (tB (L ++ [c]))) W := by
  have e : (⟨#[c]⟩ : ByteArray) = tB [c] := rfl
  rw [e, run_string_add_sum W _ _ (by rw [tB_size, tB_size]; simp; omega), tB_app]
/-- the letters of a row -/
def rowTo (s : Int) : Nat → List UInt8
  | 0 => []
  | q+1 => rowTo s q ++ [if hasB s (q : Int) then 49 else 48]
theorem rowTo_len (s : Int) : ∀ q, (rowTo s q).length = q
  | 0 => rfl
  | q+1 => by simp [rowTo, rowTo_len s q]
/-- the text of the first k rows, and what stands ahead of the next one -/
def slashK (k : Nat) : List UInt8 := if k = 0 then [] else [47]
def txK (xs : List Int) (C : Nat) : Nat → List UInt8
  | 0 => []
  | k+1 => (txK xs C k ++ slashK k) ++ rowTo (nth xs k) C
theorem txK_len (xs : List Int) (C : Nat) : ∀ k, (txK xs C k).length ≤ k * (C + 1)
  | 0 => by simp [txK]
  | k+1 => by
    have ih := txK_len xs C k
    have h1 : (slashK k).length ≤ 1 := by unfold slashK; split <;> simp
    simp only [txK, List.length_append, rowTo_len]
    rw [Nat.add_mul]
    omega

/-- the text within row k -/
def mdK (xs : List Int) (C k q : Nat) : List UInt8 := (txK xs C k ++ slashK k) ++ rowTo (nth xs k) q
theorem mdK_zero (xs : List Int) (C k : Nat) : mdK xs C k 0 = txK xs C k ++ slashK k := by simp [mdK, rowTo]
theorem mdK_succ (xs : List Int) (C k q : Nat) : mdK xs C k (q+1) = mdK xs C k q ++ [if hasB (nth xs k) (q : Int) then 49 else 48] := by
  simp only [mdK, rowTo, List.append_assoc]

theorem orHas_any (s i : Int) (w : World) (h0 : 0 ≤ s) (h1 : s ≤ 9223372036854775807) (hi : 0 ≤ i) :
    Calls Try.prog 57 #[.int .i64 s, .int .i64 i] w fun e w' => e = .returned (.bool (hasB s i)) ∧ w = w' := by
  have H := Lib.hid (has_mod h0 h1 hi)
  go_enter Try.func57, Try.ntmps57
  go_wp2
  go_ret
  exact ⟨ret_bool H.out, rfl⟩

def inB (n lo hi : Int) : Bool := decide (lo ≤ n) && decide (n ≤ hi)
theorem inB_iff {n lo hi : Int} : inB n lo hi = true ↔ lo ≤ n ∧ n ≤ hi := by simp [inB]
theorem inB_no {n lo hi : Int} : inB n lo hi = false ↔ n < lo ∨ hi < n := by
  rw [← Bool.not_eq_true, inB_iff]
  omega

def allB (xs : List Int) (lo hi : Int) : Bool := xs.all (fun x => inB x lo hi)
theorem allB_take (xs : List Int) (lo hi : Int) (k : Nat) (h : k < xs.length) : allB (xs.take (k+1)) lo hi = (allB (xs.take k) lo hi && inB (nth xs k) lo hi) := by
  simp only [allB]
  rw [List.take_succ_eq_append_getElem h, List.all_append]
  simp [nth, h]
theorem allB_false {xs : List Int} {lo hi : Int} {k : Nat} (h : k < xs.length) (h1 : inB (nth xs k) lo hi = false) : allB xs lo hi = false := by
  simp only [allB, List.all_eq_false]
  exact ⟨xs[k], List.getElem_mem h, by simpa [nth, h] using h1⟩
theorem allB_nth {xs : List Int} {lo hi : Int} (h : allB xs lo hi = true) {k : Nat} (hk : k < xs.length) : lo ≤ nth xs k ∧ nth xs k ≤ hi := by
  simp only [allB, List.all_eq_true] at h
  have := inB_iff.1 (h _ (List.getElem_mem hk))
  rwa [← nth_get xs k hk] at this

/-- is it a relation? -/
def relB (n : Int) (xs : List Int) : Bool := inB n 0 10 && decide ((xs.length : Int) = n) && allB xs 0 (2 ^ n.toNat - 1)
theorem relB_iff {n : Int} {xs : List Int} : relB n xs = true ↔ (0 ≤ n ∧ n ≤ 10) ∧ (xs.length : Int) = n ∧ allB xs 0 (2 ^ n.toNat - 1) = true := by
  simp [relB, inB_iff, and_assoc]
theorem pow10 {n : Nat} (h : n ≤ 10) : (1 : Int) ≤ 2 ^ n ∧ (2 : Int) ^ n ≤ 1024 := by
  have h1 : 2 ^ n ≤ 2 ^ 10 := Nat.pow_le_pow_right (by omega) h
  have h2 : 1 ≤ 2 ^ n := Nat.one_le_two_pow
  have h3 : ((2 ^ n : Nat) : Int) = (2 : Int) ^ n := by simp
  omega
theorem full_eq {n : Int} (h0 : 0 ≤ n) (h1 : n ≤ 10) : wrap64 (wrap64 (2 ^ n.toNat) - 1) = 2 ^ n.toNat - 1 := by
  have h2 := pow10 (n := n.toNat) (by omega)
  generalize (2 : Int) ^ n.toNat = p at *
  rw [IntWalk.wrap64_in p ⟨by omega, by omega⟩, IntWalk.wrap64_in _ ⟨by omega, by omega⟩]
structure RelP (n : Int) (xs : List Int) : Prop where
  n0 : 0 ≤ n
  n1 : n ≤ 10
  len : (xs.length : Int) = n
  pos : ∀ k, k < xs.length → 0 ≤ nth xs k
  lt : ∀ k, k < xs.length → nth xs k < 2 ^ xs.length
  small : ∀ k, k < xs.length → nth xs k < 1024
theorem relB_p {n : Int} {xs : List Int} (h : relB n xs = true) : RelP n xs := by
  obtain ⟨⟨h0, h1⟩, h2, h3⟩ := relB_iff.1 h
  have e : n.toNat = xs.length := by omega
  rw [e] at h3
  have hp := pow10 (n := xs.length) (by omega)
  exact ⟨h0, h1, h2, fun k hk => (allB_nth h3 hk).1, fun k hk => by have := (allB_nth h3 hk).2; omega, fun k hk => by have := (allB_nth h3 hk).2; omega⟩

/-- the elements of a set that are less than k, in order -/
def elemsTo (s : Nat) : Nat → List Int
  | 0 => []
  | k+1 => if s.testBit k then elemsTo s k ++ [(k : Int)] else elemsTo s k
theorem elemsTo_len (s : Nat) : ∀ k, (elemsTo s k).length ≤ k
  | 0 => by simp [elemsTo]
  | k+1 => by
    have := elemsTo_len s k
    simp only [elemsTo]
    split <;> simp <;> omega
theorem mem_elemsTo (s : Nat) (x : Int) : ∀ k, x ∈ elemsTo s k ↔ ∃ i : Nat, i < k ∧ s.testBit i = true ∧ x = i
  | 0 => by simp [elemsTo]
  | k+1 => by
    have ih := mem_elemsTo s x k
    simp only [elemsTo]
    cases hb : s.testBit k
    · rw [if_neg (by simp), ih]
      constructor
      · rintro ⟨i, h1, h2, h3⟩
        exact ⟨i, by omega, h2, h3⟩
      · rintro ⟨i, h1, h2, h3⟩
        have : i ≠ k := fun e => by rw [e, hb] at h2; cases h2
        exact ⟨i, by omega, h2, h3⟩
    · rw [if_pos rfl, List.mem_append, ih]
      constructor
      · rintro (⟨i, h1, h2, h3⟩ | h)
        · exact ⟨i, by omega, h2, h3⟩
        · exact ⟨k, by omega, hb, by simpa using h⟩
      · rintro ⟨i, h1, h2, h3⟩
        by_cases e : i = k
        · exact .inr (by simp [h3, e])
        · exact .inl ⟨i, by omega, h2, h3⟩
theorem elemsTo_more (s k : Nat) (h : s >>> k = 0) : ∀ m, elemsTo s (k + m) = elemsTo s k
  | 0 => rfl
  | m+1 => by
    have hb : s.testBit (k + m) = false := by
      rw [Nat.testBit]
      have : s >>> (k + m) = 0 := by rw [Nat.shiftRight_add, h]; simp
      simp [this]
    show elemsTo s (k + m + 1) = _
    simp only [elemsTo, hb]
    exact elemsTo_more s k h m
/-- all elements of a set below 1024 -/
def elems (s : Nat) : List Int := elemsTo s 10
theorem elems_at {s k : Nat} (h : s >>> k = 0) (hk : k ≤ 10) : elemsTo s k = elems s := by
  have := elemsTo_more s k h (10 - k)
  rw [show k + (10 - k) = 10 from by omega] at this
  exact this.symm
theorem elems_len (s : Nat) : (elems s).length ≤ 10 := elemsTo_len s 10
theorem mem_elems {s : Nat} (hs : s < 1024) {x : Int} : x ∈ elems s ↔ ∃ i : Nat, s.testBit i = true ∧ x = i := by
  rw [elems, mem_elemsTo]
  constructor
  · rintro ⟨i, _, h2, h3⟩
    exact ⟨i, h2, h3⟩
  · rintro ⟨i, h2, h3⟩
    refine ⟨i, ?_, h2, h3⟩
    rcases Nat.lt_or_ge i 10 with h | h
    · exact h
    · have : s < 2 ^ i := Nat.lt_of_lt_of_le hs (Nat.pow_le_pow_right (by omega : 0 < 2) h)
      rw [Nat.testBit_lt_two_pow this] at h2
      cases h2
theorem nth_mem {xs : List Int} {k : Nat} (h : k < xs.length) : nth xs k ∈ xs := by
  rw [nth_get xs k h]; exact List.getElem_mem h
theorem mem_nth {xs : List Int} {x : Int} (h : x ∈ xs) : ∃ k, k < xs.length ∧ nth xs k = x := by
  obtain ⟨k, hk, e⟩ := List.getElem_of_mem h
  exact ⟨k, hk, by rw [nth_get xs k hk, e]⟩

/-- is it a table? -/
def tabB (R C : Int) (xs : List Int) : Bool := inB R 1 6 && (inB C 1 6 && (decide ((xs.length : Int) = R) && allB xs 0 (2 ^ C.toNat - 1)))
structure TabP (R C : Int) (xs : List Int) : Prop where
  r0 : 1 ≤ R
  r1 : R ≤ 6
  c0 : 1 ≤ C
  c1 : C ≤ 6
  len : (xs.length : Int) = R
  all : allB xs 0 (2 ^ C.toNat - 1) = true
  pos : ∀ k, k < xs.length → 0 ≤ nth xs k
  lt : ∀ k, k < xs.length → nth xs k < 2 ^ C.toNat
  small : ∀ k, k < xs.length → nth xs k < 64
theorem pow6 {n : Nat} (h : n ≤ 6) : (1 : Int) ≤ 2 ^ n ∧ (2 : Int) ^ n ≤ 64 := by
  have h1 : 2 ^ n ≤ 2 ^ 6 := Nat.pow_le_pow_right (by omega) h
  have h2 : 1 ≤ 2 ^ n := Nat.one_le_two_pow
  have h3 : ((2 ^ n : Nat) : Int) = (2 : Int) ^ n := by simp
  omega
theorem tabB_p {R C : Int} {xs : List Int} (h : tabB R C xs = true) : TabP R C xs := by
  simp only [tabB, Bool.and_eq_true, inB_iff, decide_eq_true_eq] at h
  obtain ⟨⟨h0, h1⟩, ⟨h2, h3⟩, h4, h5⟩ := h
  have hp := pow6 (n := C.toNat) (by omega)
  exact ⟨h0, h1, h2, h3, h4, h5, fun k hk => (allB_nth h5 hk).1, fun k hk => by have := (allB_nth h5 hk).2; omega, fun k hk => by have := (allB_nth h5 hk).2; omega⟩

set_option maxRecDepth 100000 in
theorem feText_any (n : Int) (C : Nat) (a : Option Addr) (xs : List Int) (cap : Nat) (w : World) (hx : Rd w a xs) (hp : TabP n C xs) :
    Calls Try.prog 86 #[.agg #[.int .i64 n, .int .i64 (C : Int), .slice a xs.length cap]] w fun e w' => e = .returned (.string (tB (txK xs C xs.length))) ∧ Below w.heap.size w w' := by
  have hb0 : Below w.heap.size w (w.alloc (.cells #[.int .i64 n, .int .i64 (C : Int), .slice a xs.length cap] 27)) := (by repeat (first | exact Below.refl _ _ | assumption | refine Below.alloc ?_ (by first | exact Nat.le_refl _ | (simp only [World.size_alloc, World.size_setCell, World.size_drew]; omega) | omega) _ | refine Below.setCell ?_ (by first | exact Nat.le_refl _ | (simp only [World.size_alloc, World.size_setCell, World.size_drew]; omega) | omega) _ | refine Below.drew ?_))
  have A0 := Box3.new w (.int .i64 n) (.int .i64 (C : Int)) (.slice a xs.length cap) 27
  have c6 : C ≤ 6 := by have := hp.c1; omega
  have l6 : xs.length ≤ 6 := by have := hp.len; have := hp.r1; omega
  have HP := Lib.hid hp
  have HX := Lib.hid (hx.below hb0)
  have HLN : Hid (∀ k, k ≤ xs.length → (txK xs C k).length ≤ 200) := fun k hk => by
    have h1 := txK_len xs C k
    have h2 : k * (C + 1) ≤ 6 * 7 := Nat.mul_le_mul (by omega) (by omega)
    omega
  have hB : Hid (Below w.heap.size w (w.alloc (.cells #[.int .i64 n, .int .i64 (C : Int), .slice a xs.length cap] 27))) := hb0
  have ⟨zA, cA, dA, eA⟩ := A0
  have HE0 : Hid ((⟨#[]⟩ : ByteArray) = tB []) := rfl
  clear hp hx hb0
  go_enter Try.func86, Try.ntmps86
  go_wp2_with fail
  rw [HE0.out]
  go_loop [3, 10] (fun s i => ∃ k : Nat, k ≤ xs.length ∧ i = .int .i64 k ∧ s = .string (tB (txK xs C k))) (fun _ i => xs.length - (intOf i).toNat)
  case atStart => exact ⟨0, Nat.zero_le _, rfl, rfl⟩
  case round =>
    obtain ⟨k, hk, rfl, rfl⟩ := hrel
    have hln := HLN.out k hk
    by_cases hlt : k < xs.length
    · obtain ⟨b, off, rfl, hbl, hc⟩ := HX.out.cell k hlt
      have p0 := HP.out.pos k hlt
      have p1 : nth xs k ≤ 9223372036854775807 := by have := HP.out.small k hlt; omega
      have HLL : Hid (∀ q, q ≤ C → (mdK xs C k q).length ≤ 1048576) := fun q hq => by
        have h1 := rowTo_len (nth xs k) q
        have h2 : (slashK k).length ≤ 1 := by unfold slashK; split <;> simp
        simp only [mdK, List.length_append]; omega
      by_cases hz : 0 < k
      · have hz' : (0 : Int) < (k : Int) := by omega
        have hadd : ∀ W : World, (Op.stringOp .add (tB (txK xs C k)) ⟨#[47]⟩).run Try.prog W = .ok (.string (tB (mdK xs C k 0))) W := fun W => by
          have : slashK k = [47] := by unfold slashK; rw [if_neg (by omega)]
          rw [mdK_zero, this]; exact tB_add _ _ (by omega) W
        go_wp2_with fail
        go_loop [3, 6] (fun s i => ∃ q : Nat, q ≤ C ∧ i = .int .i64 q ∧ s = .string (tB (mdK xs C k q))) (fun _ i => C - (intOf i).toNat)
        case atStart => exact ⟨0, Nat.zero_le _, rfl, rfl⟩
        case round =>
          obtain ⟨q, hq, rfl, rfl⟩ := hrel
          by_cases hlt2 : q < C
          · have q0 : (0 : Int) ≤ (q : Int) := by omega
            have hll := HLL.out q hq
            cases hin : hasB (nth xs k) (q : Int)
            · have hadd2 : ∀ W : World, (Op.stringOp .add (tB (mdK xs C k q)) ⟨#[48]⟩).run Try.prog W = .ok (.string (tB (mdK xs C k (q+1)))) W := fun W => by
                have : mdK xs C k (q+1) = mdK xs C k q ++ [48] := by rw [mdK_succ, hin]; rfl
                rw [this]; exact tB_add _ _ hll W
              have HH := Lib.hid hin
              clear hin hll
              go_wp2_with fail
              refine (orHas_any _ _ _ p0 p1 q0).mono ?_
              rw [HH.out]
              rintro e w' ⟨rfl, rfl⟩
              go_wp2_with fail
              go_round
              case rel => exact ⟨q + 1, by omega, by go_num, rfl⟩
              case measure => simp [intOf] <;> omega
            · have hadd2 : ∀ W : World, (Op.stringOp .add (tB (mdK xs C k q)) ⟨#[49]⟩).run Try.prog W = .ok (.string (tB (mdK xs C k (q+1)))) W := fun W => by
                have : mdK xs C k (q+1) = mdK xs C k q ++ [49] := by rw [mdK_succ, hin]; rfl
                rw [this]; exact tB_add _ _ hll W
              have HH := Lib.hid hin
              clear hin hll
              go_wp2_with fail
              refine (orHas_any _ _ _ p0 p1 q0).mono ?_
              rw [HH.out]
              rintro e w' ⟨rfl, rfl⟩
              go_wp2_with fail
              go_round
              case rel => exact ⟨q + 1, by omega, by go_num, rfl⟩
              case measure => simp [intOf] <;> omega
          · have HQ : Hid (mdK xs C k q = txK xs C (k+1)) := by
              have : q = C := by omega
              rw [Hid, this]; rfl
            go_wp2_with fail
            go_round
            case rel => exact ⟨k + 1, by omega, by go_num, by rw [← HQ.out]⟩
            case measure => simp [intOf] <;> omega
      · have hz' : ¬ (0 : Int) < (k : Int) := by omega
        have HSL : Hid (tB (txK xs C k) = tB (mdK xs C k 0)) := by
          have : slashK k = [] := by unfold slashK; rw [if_pos (by omega)]
          rw [Hid, mdK_zero, this, List.append_nil]
        rw [HSL.out]
        go_wp2_with fail
        go_loop [3, 6] (fun s i => ∃ q : Nat, q ≤ C ∧ i = .int .i64 q ∧ s = .string (tB (mdK xs C k q))) (fun _ i => C - (intOf i).toNat)
        case atStart => exact ⟨0, Nat.zero_le _, rfl, rfl⟩
        case round =>
          obtain ⟨q, hq, rfl, rfl⟩ := hrel
          by_cases hlt2 : q < C
          · have q0 : (0 : Int) ≤ (q : Int) := by omega
            have hll := HLL.out q hq
            cases hin : hasB (nth xs k) (q : Int)
            · have hadd2 : ∀ W : World, (Op.stringOp .add (tB (mdK xs C k q)) ⟨#[48]⟩).run Try.prog W = .ok (.string (tB (mdK xs C k (q+1)))) W := fun W => by
                have : mdK xs C k (q+1) = mdK xs C k q ++ [48] := by rw [mdK_succ, hin]; rfl
                rw [this]; exact tB_add _ _ hll W
              have HH := Lib.hid hin
              clear hin hll
              go_wp2_with fail
              refine (orHas_any _ _ _ p0 p1 q0).mono ?_
              rw [HH.out]
              rintro e w' ⟨rfl, rfl⟩
              go_wp2_with fail
              go_round
              case rel => exact ⟨q + 1, by omega, by go_num, rfl⟩
              case measure => simp [intOf] <;> omega
            · have hadd2 : ∀ W : World, (Op.stringOp .add (tB (mdK xs C k q)) ⟨#[49]⟩).run Try.prog W = .ok (.string (tB (mdK xs C k (q+1)))) W := fun W => by
                have : mdK xs C k (q+1) = mdK xs C k q ++ [49] := by rw [mdK_succ, hin]; rfl
                rw [this]; exact tB_add _ _ hll W
              have HH := Lib.hid hin
              clear hin hll
              go_wp2_with fail
              refine (orHas_any _ _ _ p0 p1 q0).mono ?_
              rw [HH.out]
              rintro e w' ⟨rfl, rfl⟩
              go_wp2_with fail
              go_round
              case rel => exact ⟨q + 1, by omega, by go_num, rfl⟩
              case measure => simp [intOf] <;> omega
          · have HQ : Hid (mdK xs C k q = txK xs C (k+1)) := by
              have : q = C := by omega
              rw [Hid, this]; rfl
            go_wp2_with fail
            go_round
            case rel => exact ⟨k + 1, by omega, by go_num, by rw [← HQ.out]⟩
            case measure => simp [intOf] <;> omega
    · have HKE : Hid (txK xs C k = txK xs C xs.length) := by
        have : k = xs.length := by omega
        rw [Hid, this]
      go_wp2_with fail
      go_ret
      exact ⟨by rw [HKE.out]; rfl, hB.out⟩

theorem l1In_any (n lo hi : Int) (w : World) :
    Calls Try.prog 68 #[.int .i64 n, .int .i64 lo, .int .i64 hi] w fun e w' => e = .returned (.bool (inB n lo hi)) ∧ w = w' := by
  go_enter Try.func68, Try.ntmps68
  go_wp2
  all_goals (go_ret; exact ⟨ret_bool (by simp [inB]; try omega), rfl⟩)
theorem l1In_is {n lo hi : Int} {b : Bool} (h : inB n lo hi = b) (w : World) (m : Nat) :
    Calls Try.prog 68 #[.int .i64 n, .int .i64 lo, .int .i64 hi] (w.drewN m) fun e w' => e = .returned (.bool b) ∧ ∃ k, w' = w.drewN k :=
  Calls.quiet_of_same ((l1In_any n lo hi (w.drewN m)).mono (fun e w' hh => ⟨by rw [← h]; exact hh.1, hh.2.symm⟩))

theorem l1All_any (a : Option Addr) (xs : List Int) (cap : Nat) (lo hi : Int) (w : World) (hx : Rd w a xs) :
    Calls Try.prog 88 #[.slice a xs.length cap, .int .i64 lo, .int .i64 hi] w fun e w' => e = .returned (.bool (allB xs lo hi)) ∧ w = w' := by
  have hlen := hx.len
  go_enter Try.func88, Try.ntmps88
  go_wp2_with fail
  go_loop [11] (fun i => ∃ k : Nat, k ≤ xs.length ∧ i = .int .i64 k ∧ allB (xs.take k) lo hi = true) (fun i => xs.length - (intOf i).toNat)
  case atStart => exact ⟨0, Nat.zero_le _, rfl, rfl⟩
  case round =>
    obtain ⟨k, hk, rfl, hall⟩ := hrel
    by_cases hlt : k < xs.length
    · obtain ⟨b, off, rfl, hbl, hc⟩ := hx.cell k hlt
      cases hin : inB (nth xs k) lo hi
      · have hf := Lib.hid (allB_false hlt hin)
        go_wp2_with (go_at_call 68; refine (l1In_any _ _ _ _).mono ?_; rintro e w' ⟨rfl, rfl⟩)
        go_ret
        exact ⟨ret_bool hf.out.symm, rfl⟩
      · go_wp2_with (go_at_call 68; refine (l1In_any _ _ _ _).mono ?_; rintro e w' ⟨rfl, rfl⟩)
        go_round
        case rel => exact ⟨k + 1, by omega, by go_num, by rw [allB_take _ _ _ _ hlt, hall, hin]; rfl⟩
        case measure => simp [intOf]; omega
    · go_wp2_with fail
      go_ret
      exact ⟨ret_bool (by rw [← hall, List.take_of_length_le (by omega)]), rfl⟩
theorem l1All_is {a : Option Addr} {xs : List Int} {cap : Nat} {lo hi : Int} {b : Bool} {w : World} (hx : Rd w a xs) (h : allB xs lo hi = b) (m : Nat) :
    Calls Try.prog 88 #[.slice a xs.length cap, .int .i64 lo, .int .i64 hi] (w.drewN m) fun e w' => e = .returned (.bool b) ∧ ∃ k, w' = w.drewN k :=
  Calls.quiet_of_same ((l1All_any a xs cap lo hi (w.drewN m) (hx.below (Joins.below_draws _ _ _))).mono (fun e w' hh => ⟨by rw [← h]; exact hh.1, hh.2.symm⟩))

theorem pow6_eq {n : Int} (h0 : 0 ≤ n) (h1 : n ≤ 10) : wrap64 (wrap64 (2 ^ n.toNat) - 1) = 2 ^ n.toNat - 1 := full_eq h0 h1
theorem feGood_any (n m : Int) (a : Option Addr) (xs : List Int) (cap : Nat) (w : World) (hx : Rd w a xs) :
    Calls Try.prog 53 #[.agg #[.int .i64 n, .int .i64 m, .slice a xs.length cap]] w fun e w' => e = .returned (.bool (tabB n m xs)) ∧ Below w.heap.size w w' := by
  have hx1 := hx.alloc (.cells #[.int .i64 n, .int .i64 m, .slice a xs.length cap] 27)
  cases h1 : inB n 1 6
  · have HR : Hid (tabB n m xs = false) := by simp [Hid, tabB, h1]
    go_enter Try.func53, Try.ntmps53
    go_wp2_with fail
    go_quiet ((go_at_call 68; exact l1In_is h1 _ _))
    go_wp2_with fail
    go_ret
    exact ⟨ret_bool HR.out.symm, (Below.refl _ _).alloc (Nat.le_refl _) _ |>.trans (Joins.below_draws _ _ _)⟩
  · cases h0 : inB m 1 6
    · have HR : Hid (tabB n m xs = false) := by simp [Hid, tabB, h0]
      go_enter Try.func53, Try.ntmps53
      go_wp2_with fail
      go_quiet ((first | (go_at_call 68; with_reducible exact l1In_is h1 _ _) | (go_at_call 68; with_reducible exact l1In_is h0 _ _)))
      go_wp2_with fail
      go_ret
      exact ⟨ret_bool HR.out.symm, (Below.refl _ _).alloc (Nat.le_refl _) _ |>.trans (Joins.below_draws _ _ _)⟩
    · have hq := inB_iff.1 h0
      have m0 : 0 ≤ m := by omega
      cases h2 : ((xs.length : Int) == n)
      · have HR : Hid (tabB n m xs = false) := by
          have : ¬ (xs.length : Int) = n := by simpa using h2
          simp [Hid, tabB, this]
        go_enter Try.func53, Try.ntmps53
        go_wp2_with fail
        go_quiet ((first | (go_at_call 68; with_reducible exact l1In_is h1 _ _) | (go_at_call 68; with_reducible exact l1In_is h0 _ _)))
        go_wp2_with fail
        go_ret
        exact ⟨ret_bool HR.out.symm, (Below.refl _ _).alloc (Nat.le_refl _) _ |>.trans (Joins.below_draws _ _ _)⟩
      · cases h3 : allB xs 0 (wrap64 (wrap64 (2 ^ m.toNat) - 1))
        all_goals
          have HR : Hid (tabB n m xs = allB xs 0 (wrap64 (wrap64 (2 ^ m.toNat) - 1))) := by
            have : (xs.length : Int) = n := by simpa using h2
            simp only [Hid, tabB, h1, h0, this, full_eq m0 (show m ≤ 10 by omega)]
            simp
          have H3 := Lib.hid h3
          clear h3
          go_enter Try.func53, Try.ntmps53
          go_wp2_with fail
          go_quiet ((first | (go_at_call 68; with_reducible exact l1In_is h1 _ _) | (go_at_call 68; with_reducible exact l1In_is h0 _ _) | (go_at_call 88; exact l1All_is hx1 H3.out _)))
          go_wp2_with fail
          go_ret
          exact ⟨ret_bool (by rw [HR.out, H3.out]), (Below.refl _ _).alloc (Nat.le_refl _) _ |>.trans (Joins.below_draws _ _ _)⟩



def Sh_lays169_ren : Go.Shelf.Ren := ⟨fun | 169 => 101 | n => n, fun | 70 => 85 | 9 => 9 | 0 => 0 | 72 => 88 | 37 => 86 | 127 => 94 | 3 => 3 | 5 => 5 | n => n, fun | n => n⟩
theorem Sh_lays169 : Go.Proofs.Lays.n169 Try.prog Sh_lays169_ren := {
  mixed := by kernel_rfl
  f169 := Try.func101.trans (congrArg some (by kernel_rfl))
  t0 := Try.underlying0
  a0 := Try.isAgg0
  z0 := Try.sizeOf0
  v0 := Try.zeroValue0
  t3 := Try.underlying3
  a3 := Try.isAgg3
  z3 := Try.sizeOf3
  v3 := Try.zeroValue3
  t9 := Try.underlying9
  a9 := Try.isAgg9
  z9 := Try.sizeOf9
  v9 := Try.zeroValue9
  t37 := Try.underlying86
  a37 := Try.isAgg86
  z37 := Try.sizeOf86
  v37 := Try.zeroValue86
  t70 := Try.underlying85
  a70 := Try.isAgg85
  z70 := Try.sizeOf85
  v70 := Try.zeroValue85
  t72 := Try.underlying88
  a72 := Try.isAgg88
  z72 := Try.sizeOf88
  v72 := Try.zeroValue88
  t127 := Try.underlying94
  a127 := Try.isAgg94
  z127 := Try.sizeOf94
  v127 := Try.zeroValue94 }

theorem Sh_Builder_Extra_169 : Builder.Extra Try.prog Sh_lays169_ren := {
  sizeBuilder := by kernel_rfl
  liesBuilder := by kernel_rfl
  t5 := Try.underlying5
  a5 := Try.isAgg5
  z5 := Try.sizeOf5
  v5 := Try.zeroValue5
  infoByte := by kernel_rfl
  cellsByte := by kernel_rfl
  sizeByte := by kernel_rfl
  neB5 := by decide }

open Go.RowKit in
theorem Sh_Builder_String_any (B b : Nat) (l : List UInt8) (w : World) (h : Lib.IsBuilder 88 5 B b (Lib.byteCells l) w) (hBw : B ≤ w.heap.size) :
    Calls Try.prog 101 #[.pointer (some ⟨b, 0, none⟩)] w fun e w' => e = .returned (.string ⟨l.toArray⟩) ∧ Below B w w' := Any.Builder_String_any Sh_lays169 Sh_Builder_Extra_169 B b l w h hBw

set_option maxRecDepth 100000 in
/-- behind the check a builder holds its own address -/
theorem copyCheck_own (B b : Nat) (bs : List Value) (w : World) (h : Lib.IsBuilder 88 5 B b bs w) :
    Calls Try.prog 105 #[.pointer (some ⟨b, 0, none⟩)] w fun e w' => e = .returned (.tuple #[]) ∧ Lib.BuilderAt 88 5 B b (.pointer (some ⟨b, 0, none⟩)) bs w' ∧ Below B w w' := by
  obtain ⟨j, hj, hjs⟩ := Option.map_eq_some_iff.1 (show (Try.prog.info? 88).map (fun i => i.size) = some 2 by kernel_rfl)
  have HJ := Lib.hid hj
  have HJS := Lib.hid hjs
  clear hj hjs
  rcases h with h | h
  · have c0 := h.cell0
    have hf := h.frozen0
    have HSH := Lib.hid h.shape
    have HH := Lib.hid h
    clear h
    go_enter Try.func105, Try.ntmps105
    go_wp2
    rw [Lib.run_to_unsafe w ⟨b, 0, none⟩ Try.underlying85 Try.underlying95 HJ.out (by rw [HJS.out]; decide) HSH.out (Nat.zero_lt_succ 1)]
    simp only [Result.andThen]
    rw [Oper.upon_value]
    go_wp2
    rw [run_callFunc_extern Try.func106 (by kernel_rfl) (by kernel_rfl) (by kernel_rfl) (e := Extern.AbiNoEscape.same) (by kernel_rfl)]
    rw [Lib.run_noEscape]
    simp only [Result.andThen]
    rw [Oper.upon_value]
    go_wp2
    rw [Lib.run_from_unsafe w ⟨b, 0, none⟩ Try.underlying95 Try.underlying85 HJ.out HSH.out Sh_Builder_Extra_169.liesBuilder]
    simp only [Result.andThen]
    rw [Oper.upon_value]
    go_wp2
    go_end0
    exact ⟨rfl, HH.out.used _, (Below.refl B w).setCell (p := ⟨b, 0, none⟩) HH.out.1 _⟩
  · have c0 := h.cell0
    have HH := Lib.hid h
    clear h
    go_enter Try.func105, Try.ntmps105
    go_wp2
    rw [Lib.run_neq_ptr_same w _ Try.underlying85 HJ.out]
    go_wp2
    go_end0
    exact ⟨rfl, HH.out, Below.refl _ _⟩
/-- one byte more in a builder -/
theorem writeByte_own (B b : Nat) (bs : List Value) (c : Int) (w : World) (h : Lib.IsBuilder 88 5 B b bs w) (hlen : bs.length ≤ 1048576) (hBw : B ≤ w.heap.size) :
    Calls Try.prog 100 #[.pointer (some ⟨b, 0, none⟩), .int .u8 c] w fun e w' => e = .returned .nilIface ∧ Lib.IsBuilder 88 5 B b (bs ++ [.int .u8 c]) w' ∧ Below B w w' := by
  obtain ⟨i0, hi, hz0, hz1, hz2⟩ := info_parts Sh_Builder_Extra_169.infoByte
  go_enter Try.func100, Try.ntmps100
  go_wp2_with fail
  refine (copyCheck_own B b bs _ h).mono ?_
  rintro e w1 ⟨rfl, ⟨hB, v, hbk, hown, hne⟩, hb1⟩
  have c0 : w1.cell? ⟨b, 0, none⟩ = some (.pointer (some ⟨b, 0, none⟩)) := by rw [Lib.cell_of_heap hbk]; rfl
  have c1 : w1.cell? ⟨b, 1, none⟩ = some v := by rw [Lib.cell_of_heap hbk]; rfl
  have hs1 := hb1.size
  have HO := Lib.hid hown
  clear h
  go_wp2_with (at_builtin; refine wpList_append_own _ rfl _ _ 86 rfl B 5 i0 (.int .u8 0) 1 1 Try.underlying86 hi hz0 hz1 hz2 rfl (by decide) _ _ _ rfl (HO.out.alloc _) ⟨w1.heap.size, 0, none⟩ 1 1 [.int .u8 c] rfl rfl ?c1 ?c2 ?c3 ?c4 ?c5 ?_)
  case c1 =>
    intro j u hj
    match j, hj with
    | 0, hj => simp at hj; subst hj; simp [Addr.add]
  case c2 => intro u hu; simp at hu; subst hu; rfl
  case c3 => unfold maxLen; omega
  case c4 => omega
  case c5 => simp; omega
  intro v' w2 hown' hgrow _
  have hlt : b < w1.heap.size := (Array.getElem?_eq_some_iff.1 hbk).1
  have hb2 : w2.heap[b]? = some (.cells #[.pointer (some ⟨b, 0, none⟩), v] 88 (0, 0)) := by
    rw [hgrow.block b (by simp; omega) (fun e => hne e.symm), Lib.alloc_old w1 _ b hlt]
    exact hbk
  have d0 : w2.cell? ⟨b, 0, none⟩ = some (.pointer (some ⟨b, 0, none⟩)) := by rw [Lib.cell_of_heap hb2]; rfl
  have d1 : w2.cell? ⟨b, 1, none⟩ = some v := by rw [Lib.cell_of_heap hb2]; rfl
  have f1 : w2.frozen? ⟨b, 1, none⟩ = false := Lib.frozen_of_heap hb2 1
  obtain ⟨g, cap, rfl⟩ : ∃ g cap, v' = .slice (some ⟨g, 0, none⟩) (bs.length + 1) cap := by
    rcases hown'.2 with ⟨_, h0⟩ | ⟨g, cap, cur, hv, _⟩
    · omega
    · exact ⟨g, cap, hv⟩
  have HW := Lib.hid hown'
  have HG := Lib.hid hgrow
  clear hown' hgrow
  go_wp2_with fail
  go_ret
  refine ⟨rfl, .inr (Lib.BuilderAt.put (T := 88) (e := 5) hB hb2 (bs' := bs ++ [.int .u8 c]) (by simpa using HW.out) (by decide)), ?_⟩
  exact ((hb1.alloc (by omega) _).grown HG.out (by simp; omega) (fun k hk => (HO.out.lt k hk).1)).setCell (p := ⟨b, 1, none⟩) hB _

theorem hasElement_any (s i : Int) (w : World) (h0 : 0 ≤ s) (h1 : s ≤ 9223372036854775807) (hi : 0 ≤ i) :
    Calls Try.prog 73 #[.int .i64 s, .int .i64 i] w fun e w' => e = .returned (.bool (hasB s i)) ∧ w = w' := by
  have H := Lib.hid (has_and h0 h1 hi)
  go_enter Try.func73, Try.ntmps73
  go_wp2
  go_ret
  exact ⟨ret_bool H.out, rfl⟩

set_option maxRecDepth 100000 in
theorem setsText_any (a : Option Addr) (xs : List Int) (cap : Nat) (C : Nat) (w : World) (hx : Rd w a xs) (hl : xs.length ≤ 10) (hC : C ≤ 10) (hs : ∀ k, k < xs.length → 0 ≤ nth xs k ∧ nth xs k < 1024) :
    Calls Try.prog 87 #[.slice a xs.length cap, .int .i64 (C : Int)] w fun e w' => e = .returned (.string (tB (txK xs C xs.length))) ∧ Below w.heap.size w w' := by
  have hI0 : Lib.IsBuilder 88 5 w.heap.size w.heap.size (Lib.byteCells []) (w.alloc (.cells #[.pointer none, .slice none 0 0] 88)) :=
    .inl ⟨Nat.le_refl _, .slice none 0 0, heap_alloc_new w _, World.ownsRow_nil _ _ _ _, by simp [Value.ownBlock]⟩
  have hb0 : Below w.heap.size w (w.alloc (.cells #[.pointer none, .slice none 0 0] 88)) := (by repeat (first | exact Below.refl _ _ | assumption | refine Below.alloc ?_ (by first | exact Nat.le_refl _ | (simp only [World.size_alloc, World.size_setCell, World.size_drew]; omega) | omega) _ | refine Below.setCell ?_ (by first | exact Nat.le_refl _ | (simp only [World.size_alloc, World.size_setCell, World.size_drew]; omega) | omega) _ | refine Below.drew ?_))
  have H0 := Lib.hid (And.intro hI0 hb0)
  have HS := Lib.hid hs
  have HX := Lib.hid hx
  have HLN : Hid (∀ k, k ≤ xs.length → (txK xs C k).length ≤ 200) := fun k hk => by
    have h1 := txK_len xs C k
    have h2 : k * (C + 1) ≤ 10 * 11 := Nat.mul_le_mul (by omega) (by omega)
    omega
  have hbc : ∀ (l : List UInt8) (c : UInt8), Lib.byteCells l ++ [.int .u8 (c.toNat : Int)] = Lib.byteCells (l ++ [c]) := fun l c => by simp [Lib.byteCells]
  have hbl : ∀ l : List UInt8, (Lib.byteCells l).length = l.length := fun l => by simp [Lib.byteCells]
  have HBC := Lib.hid hbc
  have HBL := Lib.hid hbl
  clear hI0 hb0 hs hx hbc hbl
  go_enter Try.func87, Try.ntmps87
  go_wp2_with fail
  go_loopw [11] (fun i wr => ∃ k : Nat, k ≤ xs.length ∧ i = .int .i64 k ∧ Lib.IsBuilder 88 5 w.heap.size w.heap.size (Lib.byteCells (txK xs C k)) wr ∧ Below w.heap.size w wr) (fun i _ => xs.length - (intOf i).toNat)
  case atStart => exact ⟨0, Nat.zero_le _, rfl, H0.out⟩
  case round =>
    obtain ⟨k, hk, rfl, hI, hb⟩ := hrel
    have HI := Lib.hid hI
    have HB := Lib.hid hb
    have hbs := hb.size
    have hln := HLN.out k hk
    by_cases hlt : k < xs.length
    · obtain ⟨b, off, rfl, hbl, hc⟩ := (HX.out.below hb).cell k hlt
      have ⟨p0, p1'⟩ := HS.out k hlt
      have p1 : nth xs k ≤ 9223372036854775807 := by omega
      have HTK : Hid (txK xs C (k+1) = (txK xs C k ++ slashK k) ++ rowTo (nth xs k) C) := rfl
      clear hI hb
      by_cases hz : 0 < k
      · have hz' : (0 : Int) < (k : Int) := by omega
        have HSL : Hid (slashK k = [47]) := by simp [Hid, slashK]; omega
        go_wp2_with fail
        refine (writeByte_own _ _ _ 47 _ HI.out (by rw [HBL.out]; omega) hbs).mono ?_
        rintro e w2 ⟨rfl, hI2, hb2⟩
        have HI2 : Hid (Lib.IsBuilder 88 5 w.heap.size w.heap.size (Lib.byteCells (txK xs C k ++ slashK k)) w2) := by
          rw [Hid, HSL.out, ← HBC.out]; exact hI2
        have HB2 := Lib.hid (HB.out.trans hb2)
        clear hI2 hb2
        clear hbs
        have hbs := HB2.out.size
        go_wp2_with fail
        go_loopw [20] (fun i wr => ∃ q : Nat, q ≤ C ∧ i = .int .i64 q ∧ Lib.IsBuilder 88 5 w.heap.size w.heap.size (Lib.byteCells ((txK xs C k ++ slashK k) ++ rowTo (nth xs k) q)) wr ∧ Below w.heap.size w wr) (fun i _ => C - (intOf i).toNat)
        case atStart => exact ⟨0, Nat.zero_le _, rfl, by rw [rowTo, List.append_nil]; exact HI2.out, HB2.out⟩
        case round =>
          obtain ⟨q, hq, rfl, hI3, hb3⟩ := hrel
          have HI3 := Lib.hid hI3
          have HB3 := Lib.hid hb3
          have hbs3 := hb3.size
          clear hI3 hb3
          by_cases hlt2 : q < C
          · have q0 : (0 : Int) ≤ (q : Int) := by omega
            have hrl := rowTo_len (nth xs k) q
            have hsl : (slashK k).length ≤ 1 := by unfold slashK; split <;> simp
            have HLL : Hid (((txK xs C k ++ slashK k) ++ rowTo (nth xs k) q).length ≤ 1048576) := by
              simp only [Hid, List.length_append]; omega
            have HRT : Hid (rowTo (nth xs k) (q+1) = rowTo (nth xs k) q ++ [if hasB (nth xs k) (q : Int) then 49 else 48]) := rfl
            clear hrl hsl
            cases hin : hasB (nth xs k) (q : Int)
            · have HR2 : Hid ((txK xs C k ++ slashK k) ++ rowTo (nth xs k) (q+1) = ((txK xs C k ++ slashK k) ++ rowTo (nth xs k) q) ++ [48]) := by rw [Hid, HRT.out, hin, List.append_assoc _ (rowTo (nth xs k) q)]; rfl
              have HH := Lib.hid hin
              clear hin
              go_wp2_with fail
              refine (hasElement_any _ _ _ p0 p1 q0).mono ?_
              rw [HH.out]
              rintro e w' ⟨rfl, rfl⟩
              go_wp2_with fail
              refine (writeByte_own _ _ _ 48 _ HI3.out (by rw [HBL.out]; exact HLL.out) hbs3).mono ?_
              rintro e w4 ⟨rfl, hI4, hb4⟩
              have HI4 : Hid (Lib.IsBuilder 88 5 w.heap.size w.heap.size (Lib.byteCells ((txK xs C k ++ slashK k) ++ rowTo (nth xs k) (q+1))) w4) := by
                rw [Hid, HR2.out, ← HBC.out]; exact hI4
              have HB4 := Lib.hid (HB3.out.trans hb4)
              clear hI4 hb4
              go_wp2_with fail
              go_roundw
              case rel => exact ⟨q + 1, by omega, by go_num, HI4.out, HB4.out⟩
              case measure => simp [intOf] <;> omega
            · have HR2 : Hid ((txK xs C k ++ slashK k) ++ rowTo (nth xs k) (q+1) = ((txK xs C k ++ slashK k) ++ rowTo (nth xs k) q) ++ [49]) := by rw [Hid, HRT.out, hin, List.append_assoc _ (rowTo (nth xs k) q)]; rfl
              have HH := Lib.hid hin
              clear hin
              go_wp2_with fail
              refine (hasElement_any _ _ _ p0 p1 q0).mono ?_
              rw [HH.out]
              rintro e w' ⟨rfl, rfl⟩
              go_wp2_with fail
              refine (writeByte_own _ _ _ 49 _ HI3.out (by rw [HBL.out]; exact HLL.out) hbs3).mono ?_
              rintro e w4 ⟨rfl, hI4, hb4⟩
              have HI4 : Hid (Lib.IsBuilder 88 5 w.heap.size w.heap.size (Lib.byteCells ((txK xs C k ++ slashK k) ++ rowTo (nth xs k) (q+1))) w4) := by
                rw [Hid, HR2.out, ← HBC.out]; exact hI4
              have HB4 := Lib.hid (HB3.out.trans hb4)
              clear hI4 hb4
              go_wp2_with fail
              go_roundw
              case rel => exact ⟨q + 1, by omega, by go_num, HI4.out, HB4.out⟩
              case measure => simp [intOf] <;> omega
          · have HQ : Hid ((txK xs C k ++ slashK k) ++ rowTo (nth xs k) q = txK xs C (k+1)) := by
              have : q = C := by omega
              rw [Hid, this]; rfl
            go_wp2_with fail
            go_roundw
            case rel => exact ⟨k + 1, by omega, by go_num, by rw [← HQ.out]; exact HI3.out, HB3.out⟩
            case measure => simp [intOf] <;> omega
      · have hz' : ¬ (0 : Int) < (k : Int) := by omega
        have HI2 : Hid (Lib.IsBuilder 88 5 w.heap.size w.heap.size (Lib.byteCells (txK xs C k ++ slashK k)) wr) := by
          have : slashK k = [] := by unfold slashK; rw [if_pos (by omega)]
          rw [Hid, this, List.append_nil]; exact HI.out
        have HB2 := HB
        clear hbs
        have hbs := HB2.out.size
        go_wp2_with fail
        go_loopw [20] (fun i wr => ∃ q : Nat, q ≤ C ∧ i = .int .i64 q ∧ Lib.IsBuilder 88 5 w.heap.size w.heap.size (Lib.byteCells ((txK xs C k ++ slashK k) ++ rowTo (nth xs k) q)) wr ∧ Below w.heap.size w wr) (fun i _ => C - (intOf i).toNat)
        case atStart => exact ⟨0, Nat.zero_le _, rfl, by rw [rowTo, List.append_nil]; exact HI2.out, HB2.out⟩
        case round =>
          obtain ⟨q, hq, rfl, hI3, hb3⟩ := hrel
          have HI3 := Lib.hid hI3
          have HB3 := Lib.hid hb3
          have hbs3 := hb3.size
          clear hI3 hb3
          by_cases hlt2 : q < C
          · have q0 : (0 : Int) ≤ (q : Int) := by omega
            have hrl := rowTo_len (nth xs k) q
            have hsl : (slashK k).length ≤ 1 := by unfold slashK; split <;> simp
            have HLL : Hid (((txK xs C k ++ slashK k) ++ rowTo (nth xs k) q).length ≤ 1048576) := by
              simp only [Hid, List.length_append]; omega
            have HRT : Hid (rowTo (nth xs k) (q+1) = rowTo (nth xs k) q ++ [if hasB (nth xs k) (q : Int) then 49 else 48]) := rfl
            clear hrl hsl
            cases hin : hasB (nth xs k) (q : Int)
            · have HR2 : Hid ((txK xs C k ++ slashK k) ++ rowTo (nth xs k) (q+1) = ((txK xs C k ++ slashK k) ++ rowTo (nth xs k) q) ++ [48]) := by rw [Hid, HRT.out, hin, List.append_assoc _ (rowTo (nth xs k) q)]; rfl
              have HH := Lib.hid hin
              clear hin
              go_wp2_with fail
              refine (hasElement_any _ _ _ p0 p1 q0).mono ?_
              rw [HH.out]
              rintro e w' ⟨rfl, rfl⟩
              go_wp2_with fail
              refine (writeByte_own _ _ _ 48 _ HI3.out (by rw [HBL.out]; exact HLL.out) hbs3).mono ?_
              rintro e w4 ⟨rfl, hI4, hb4⟩
              have HI4 : Hid (Lib.IsBuilder 88 5 w.heap.size w.heap.size (Lib.byteCells ((txK xs C k ++ slashK k) ++ rowTo (nth xs k) (q+1))) w4) := by
                rw [Hid, HR2.out, ← HBC.out]; exact hI4
              have HB4 := Lib.hid (HB3.out.trans hb4)
              clear hI4 hb4
              go_wp2_with fail
              go_roundw
              case rel => exact ⟨q + 1, by omega, by go_num, HI4.out, HB4.out⟩
              case measure => simp [intOf] <;> omega
            · have HR2 : Hid ((txK xs C k ++ slashK k) ++ rowTo (nth xs k) (q+1) = ((txK xs C k ++ slashK k) ++ rowTo (nth xs k) q) ++ [49]) := by rw [Hid, HRT.out, hin, List.append_assoc _ (rowTo (nth xs k) q)]; rfl
              have HH := Lib.hid hin
              clear hin
              go_wp2_with fail
              refine (hasElement_any _ _ _ p0 p1 q0).mono ?_
              rw [HH.out]
              rintro e w' ⟨rfl, rfl⟩
              go_wp2_with fail
              refine (writeByte_own _ _ _ 49 _ HI3.out (by rw [HBL.out]; exact HLL.out) hbs3).mono ?_
              rintro e w4 ⟨rfl, hI4, hb4⟩
              have HI4 : Hid (Lib.IsBuilder 88 5 w.heap.size w.heap.size (Lib.byteCells ((txK xs C k ++ slashK k) ++ rowTo (nth xs k) (q+1))) w4) := by
                rw [Hid, HR2.out, ← HBC.out]; exact hI4
              have HB4 := Lib.hid (HB3.out.trans hb4)
              clear hI4 hb4
              go_wp2_with fail
              go_roundw
              case rel => exact ⟨q + 1, by omega, by go_num, HI4.out, HB4.out⟩
              case measure => simp [intOf] <;> omega
          · have HQ : Hid ((txK xs C k ++ slashK k) ++ rowTo (nth xs k) q = txK xs C (k+1)) := by
              have : q = C := by omega
              rw [Hid, this]; rfl
            go_wp2_with fail
            go_roundw
            case rel => exact ⟨k + 1, by omega, by go_num, by rw [← HQ.out]; exact HI3.out, HB3.out⟩
            case measure => simp [intOf] <;> omega
    · have HKE : Hid (txK xs C k = txK xs C xs.length) := by
        have : k = xs.length := by omega
        rw [Hid, this]
      clear hI hb
      go_wp2_with fail
      refine (Sh_Builder_String_any _ _ _ _ HI.out hbs).mono ?_
      rintro e w9 ⟨rfl, hb9⟩
      go_wp2_with fail
      go_ret
      exact ⟨by rw [HKE.out]; rfl, HB.out.trans hb9⟩

theorem fullSet_any (n : Int) (w : World) (h0 : 0 ≤ n) (h1 : n ≤ 10) :
    Calls Try.prog 102 #[.int .i64 n] w fun e w' => e = .returned (.int .i64 (2 ^ n.toNat - 1)) ∧ w = w' := by
  have hf := Lib.hid (full_eq h0 h1)
  go_enter Try.func102, Try.ntmps102
  go_wp2
  go_ret
  exact ⟨ret_int hf.out, rfl⟩

theorem isSet_any (s n : Int) (w : World) (h0' : 0 ≤ n) (h1' : n ≤ 10) :
    Calls Try.prog 89 #[.int .i64 s, .int .i64 n] w fun e w' => e = .returned (.bool (inB s 0 (2 ^ n.toNat - 1))) ∧ w = w' := by
  by_cases h0 : 0 ≤ s
  · by_cases h1 : s ≤ 2 ^ n.toNat - 1
    · have hf := Lib.hid (inB_iff.2 ⟨h0, h1⟩)
      go_enter Try.func89, Try.ntmps89
      go_wp2_with (go_at_call 102; refine (fullSet_any _ _ h0' h1').mono ?_; rintro e w' ⟨rfl, rfl⟩)
      go_ret
      exact ⟨ret_bool (by rw [hf.out]; try simp [h1]), rfl⟩
    · have hf := Lib.hid (inB_no (lo := 0).2 (.inr (show 2 ^ n.toNat - 1 < s by omega)))
      go_enter Try.func89, Try.ntmps89
      go_wp2_with (go_at_call 102; refine (fullSet_any _ _ h0' h1').mono ?_; rintro e w' ⟨rfl, rfl⟩)
      go_ret
      exact ⟨ret_bool (by rw [hf.out]; try simp [h1]), rfl⟩
  · have hf := Lib.hid (inB_no (hi := 2 ^ n.toNat - 1).2 (.inl (show s < 0 by omega)))
    go_enter Try.func89, Try.ntmps89
    go_wp2_with fail
    go_ret
    exact ⟨ret_bool (by rw [hf.out]; try simp [h1]), rfl⟩

theorem areSets_any (a : Option Addr) (xs : List Int) (cap : Nat) (n : Int) (w : World) (hx : Rd w a xs) (h0' : 0 ≤ n) (h1' : n ≤ 10) :
    Calls Try.prog 55 #[.slice a xs.length cap, .int .i64 n] w fun e w' => e = .returned (.bool (allB xs 0 (2 ^ n.toNat - 1))) ∧ w = w' := by
  have hlen := hx.len
  go_enter Try.func55, Try.ntmps55
  go_wp2_with fail
  go_loop [9] (fun i => ∃ k : Nat, k ≤ xs.length ∧ i = .int .i64 k ∧ allB (xs.take k) 0 (2 ^ n.toNat - 1) = true) (fun i => xs.length - (intOf i).toNat)
  case atStart => exact ⟨0, Nat.zero_le _, rfl, rfl⟩
  case round =>
    obtain ⟨k, hk, rfl, hall⟩ := hrel
    by_cases hlt : k < xs.length
    · obtain ⟨b, off, rfl, hbl, hc⟩ := hx.cell k hlt
      cases hin : inB (nth xs k) 0 (2 ^ n.toNat - 1)
      · have hf := Lib.hid (allB_false hlt hin)
        go_wp2_with (go_at_call 89; refine (isSet_any _ _ _ h0' h1').mono ?_; rintro e w' ⟨rfl, rfl⟩)
        go_ret
        exact ⟨ret_bool hf.out.symm, rfl⟩
      · go_wp2_with (go_at_call 89; refine (isSet_any _ _ _ h0' h1').mono ?_; rintro e w' ⟨rfl, rfl⟩)
        go_round
        case rel => exact ⟨k + 1, by omega, by go_num, by rw [allB_take _ _ _ _ hlt, hall, hin]; rfl⟩
        case measure => simp [intOf]; omega
    · go_wp2_with fail
      go_ret
      exact ⟨ret_bool (by rw [← hall, List.take_of_length_le (by omega)]), rfl⟩

theorem isShape_any (r c : Int) (w : World) :
    Calls Try.prog 54 #[.int .i64 r, .int .i64 c] w fun e w' => e = .returned (.bool (inB r 1 6 && inB c 1 6)) ∧ w = w' := by
  by_cases h0 : 1 ≤ r
  · by_cases h1 : r ≤ 6
    · by_cases h2 : 1 ≤ c
      all_goals
        go_enter Try.func54, Try.ntmps54
        go_wp2
        go_ret
        exact ⟨ret_bool (by simp [inB, h0, h1, h2] <;> omega), rfl⟩
    · go_enter Try.func54, Try.ntmps54
      go_wp2
      go_ret
      exact ⟨ret_bool (by simp [inB, h0, h1] <;> omega), rfl⟩
  · go_enter Try.func54, Try.ntmps54
    go_wp2
    go_ret
    exact ⟨ret_bool (by simp [inB, h0] <;> omega), rfl⟩

theorem iIsTable_any (n m : Int) (a : Option Addr) (xs : List Int) (cap : Nat) (w : World) (hn : -9223372036854775808 ≤ n ∧ n ≤ 9223372036854775807) (hm : -9223372036854775808 ≤ m ∧ m ≤ 9223372036854775807) (hx : Rd w a xs) :
    Calls Try.prog 18 #[.agg #[.int .i64 n, .int .i64 m, .slice a xs.length cap]] w fun e w' => e = .returned (.bool (tabB n m xs)) ∧ Below w.heap.size w w' := by
  have hx1 := hx.alloc (.cells #[.int .i64 n, .int .i64 m, .slice a xs.length cap] 27)
  have hlen := hx.len
  cases h1 : (inB n 1 6 && inB m 1 6)
  · have HR : Hid (tabB n m xs = false) := by
      simp only [Hid, tabB]
      rw [← Bool.and_assoc, h1]; rfl
    have HS := Lib.hid h1
    clear h1
    go_enter Try.func18, Try.ntmps18
    go_wp2_with fail
    refine (isShape_any _ _ _).mono ?_
    rw [HS.out]
    rintro e w' ⟨rfl, rfl⟩
    go_wp2_with fail
    go_ret
    exact ⟨ret_bool HR.out.symm, (by repeat (first | exact Below.refl _ _ | assumption | refine Below.alloc ?_ (by first | exact Nat.le_refl _ | (simp only [World.size_alloc, World.size_setCell, World.size_drew]; omega) | omega) _ | refine Below.setCell ?_ (by first | exact Nat.le_refl _ | (simp only [World.size_alloc, World.size_setCell, World.size_drew]; omega) | omega) _ | refine Below.drew ?_))⟩
  · have ⟨q1, q2⟩ : inB n 1 6 = true ∧ inB m 1 6 = true := by simpa using h1
    have hq := inB_iff.1 q2
    have m0 : 0 ≤ m := by omega
    have m1 : m ≤ 10 := by omega
    cases h2 : ((xs.length : Int) == n)
    · have HR : Hid (tabB n m xs = false) := by
        have : ¬ (xs.length : Int) = n := by simpa using h2
        simp [Hid, tabB, this]
      have HS := Lib.hid h1
      clear h1
      go_enter Try.func18, Try.ntmps18
      go_wp2_with fail
      refine (isShape_any _ _ _).mono ?_
      rw [HS.out]
      rintro e w' ⟨rfl, rfl⟩
      go_wp2_with fail
      go_ret
      exact ⟨ret_bool HR.out.symm, (by repeat (first | exact Below.refl _ _ | assumption | refine Below.alloc ?_ (by first | exact Nat.le_refl _ | (simp only [World.size_alloc, World.size_setCell, World.size_drew]; omega) | omega) _ | refine Below.setCell ?_ (by first | exact Nat.le_refl _ | (simp only [World.size_alloc, World.size_setCell, World.size_drew]; omega) | omega) _ | refine Below.drew ?_))⟩
    · have HR : Hid (tabB n m xs = allB xs 0 (2 ^ m.toNat - 1)) := by
        have : (xs.length : Int) = n := by simpa using h2
        simp [Hid, tabB, q1, q2, this]
      have HS := Lib.hid h1
      clear h1
      go_enter Try.func18, Try.ntmps18
      go_wp2_with fail
      refine (isShape_any _ _ _).mono ?_
      rw [HS.out]
      rintro e w' ⟨rfl, rfl⟩
      go_wp2_with fail
      refine (areSets_any _ _ _ _ _ hx1 m0 m1).mono ?_
      rintro e w' ⟨rfl, rfl⟩
      go_wp2_with fail
      go_ret
      exact ⟨ret_bool HR.out.symm, (by repeat (first | exact Below.refl _ _ | assumption | refine Below.alloc ?_ (by first | exact Nat.le_refl _ | (simp only [World.size_alloc, World.size_setCell, World.size_drew]; omega) | omega) _ | refine Below.setCell ?_ (by first | exact Nat.le_refl _ | (simp only [World.size_alloc, World.size_setCell, World.size_drew]; omega) | omega) _ | refine Below.drew ?_))⟩

def ttS (n m : Int) (xs : List Int) : ByteArray := if tabB n m xs then tB (txK xs m.toNat xs.length) else ⟨#[]⟩
theorem iTabText_any (n m : Int) (a : Option Addr) (xs : List Int) (cap : Nat) (w : World) (hn : -9223372036854775808 ≤ n ∧ n ≤ 9223372036854775807) (hm : -9223372036854775808 ≤ m ∧ m ≤ 9223372036854775807) (hx : Rd w a xs) :
    Calls Try.prog 51 #[.agg #[.int .i64 n, .int .i64 m, .slice a xs.length cap]] w fun e w' => e = .returned (.tuple #[.string (ttS n m xs), .bool (tabB n m xs)]) ∧ Below w.heap.size w w' := by
  have hb0 : Below w.heap.size w (w.alloc (.cells #[.int .i64 n, .int .i64 m, .slice a xs.length cap] 27)) := (by repeat (first | exact Below.refl _ _ | assumption | refine Below.alloc ?_ (by first | exact Nat.le_refl _ | (simp only [World.size_alloc, World.size_setCell, World.size_drew]; omega) | omega) _ | refine Below.setCell ?_ (by first | exact Nat.le_refl _ | (simp only [World.size_alloc, World.size_setCell, World.size_drew]; omega) | omega) _ | refine Below.drew ?_))
  cases hr : tabB n m xs
  · have H1 : Hid (ttS n m xs = ⟨#[]⟩) := by simp [Hid, ttS, hr]
    have HM := Lib.hid hr
    clear hr
    go_enter Try.func51, Try.ntmps51
    go_wp2_with fail
    refine (iIsTable_any _ _ _ _ _ _ hn hm (hx.below hb0)).mono ?_
    rw [HM.out]
    rintro e w1 ⟨rfl, hb⟩
    have b1 : Below w.heap.size w w1 := hb0.trans (hb.mono (by simp))
    go_wp2_with fail
    go_ret2
    exact ⟨by rw [H1.out]; rfl, b1⟩
  · have hp := tabB_p hr
    obtain ⟨C, hC⟩ := Int.eq_ofNat_of_zero_le (show 0 ≤ m by have := hp.c0; omega)
    subst hC
    have H1 : Hid (ttS n C xs = tB (txK xs C xs.length)) := by simp [Hid, ttS, hr]
    have HM := Lib.hid hr
    have c6 : C ≤ 10 := by have := hp.c1; omega
    have l6 : xs.length ≤ 10 := by have := hp.len; have := hp.r1; omega
    have HS : Hid (∀ k, k < xs.length → 0 ≤ nth xs k ∧ nth xs k < 1024) := fun k hk => ⟨hp.pos k hk, by have := hp.small k hk; omega⟩
    clear hr hp
    go_enter Try.func51, Try.ntmps51
    go_wp2_with fail
    refine (iIsTable_any _ _ _ _ _ _ hn hm (hx.below hb0)).mono ?_
    rw [HM.out]
    rintro e w1 ⟨rfl, hb⟩
    have b1 : Below w.heap.size w w1 := hb0.trans (hb.mono (by simp))
    have ⟨zA, cA, dA, eA⟩ := (Box3.new w (.int .i64 n) (.int .i64 (C : Int)) (.slice a xs.length cap) 27).below hb
    have b1s := b1.size
    clear hb
    go_wp2_with fail
    refine (setsText_any a xs cap C _ (hx.below b1) l6 c6 HS.out).mono ?_
    rintro e w2 ⟨rfl, hb2⟩
    go_wp2_with fail
    go_ret2
    exact ⟨by rw [H1.out]; rfl, b1.trans (hb2.mono b1s)⟩

theorem sTabText_any (n m : Int) (a : Option Addr) (xs : List Int) (cap : Nat) (w : World) (hn : -9223372036854775808 ≤ n ∧ n ≤ 9223372036854775807) (hm : -9223372036854775808 ≤ m ∧ m ≤ 9223372036854775807) (hx : Rd w a xs) :
    Calls Try.prog 50 #[.agg #[.int .i64 n, .int .i64 m, .slice a xs.length cap]] w fun e w' => e = .returned (.tuple #[.string (ttS n m xs), .bool (tabB n m xs)]) ∧ Below w.heap.size w w' := by
  have hb0 : Below w.heap.size w (w.alloc (.cells #[.int .i64 n, .int .i64 m, .slice a xs.length cap] 27)) := (by repeat (first | exact Below.refl _ _ | assumption | refine Below.alloc ?_ (by first | exact Nat.le_refl _ | (simp only [World.size_alloc, World.size_setCell, World.size_drew]; omega) | omega) _ | refine Below.setCell ?_ (by first | exact Nat.le_refl _ | (simp only [World.size_alloc, World.size_setCell, World.size_drew]; omega) | omega) _ | refine Below.drew ?_))
  cases hr : tabB n m xs
  · have H1 : Hid (ttS n m xs = ⟨#[]⟩) := by simp [Hid, ttS, hr]
    have HM := Lib.hid hr
    clear hr
    go_enter Try.func50, Try.ntmps50
    go_wp2_with fail
    refine (feGood_any _ _ _ _ _ _ (hx.below hb0)).mono ?_
    rw [HM.out]
    rintro e w1 ⟨rfl, hb⟩
    have b1 : Below w.heap.size w w1 := hb0.trans (hb.mono (by simp))
    go_wp2_with fail
    go_ret2
    exact ⟨by rw [H1.out]; rfl, b1⟩
  · have hp := tabB_p hr
    obtain ⟨C, hC⟩ := Int.eq_ofNat_of_zero_le (show 0 ≤ m by have := hp.c0; omega)
    subst hC
    have H1 : Hid (ttS n C xs = tB (txK xs C xs.length)) := by simp [Hid, ttS, hr]
    have HM := Lib.hid hr
    have HP := Lib.hid hp
    clear hr hp
    go_enter Try.func50, Try.ntmps50
    go_wp2_with fail
    refine (feGood_any _ _ _ _ _ _ (hx.below hb0)).mono ?_
    rw [HM.out]
    rintro e w1 ⟨rfl, hb⟩
    have b1 : Below w.heap.size w w1 := hb0.trans (hb.mono (by simp))
    have ⟨zA, cA, dA, eA⟩ := (Box3.new w (.int .i64 n) (.int .i64 (C : Int)) (.slice a xs.length cap) 27).below hb
    have b1s := b1.size
    clear hb
    go_wp2_with fail
    refine (feText_any n C _ _ _ _ (hx.below b1) HP.out).mono ?_
    rintro e w2 ⟨rfl, hb2⟩
    go_wp2_with fail
    go_ret2
    exact ⟨by rw [H1.out]; rfl, b1.trans (hb2.mono b1s)⟩

theorem walk (n0 m0 : Int) (a0 : Option Addr) (xs0 : List Int) (cap0 : Nat) (w : World) (hn0 : -9223372036854775808 ≤ n0 ∧ n0 ≤ 9223372036854775807) (hm0 : -9223372036854775808 ≤ m0 ∧ m0 ≤ 9223372036854775807) (hx0 : Rd w a0 xs0) :
    Calls Try.prog 14 #[.agg #[.int .i64 n0, .int .i64 m0, .slice a0 xs0.length cap0]] w fun e w' => e = .returned (.bool true) ∧ Below w.heap.size w w' := by
  by_cases hs0 : 1048576 < (xs0.length : Int)
  · go_enter Try.func14, Try.ntmps14
    go_wp2_with fail
    refine (szTable_no (by omega) (by omega) (by omega) hx0.len).mono ?_
    rintro e w1 ⟨rfl, hb1⟩
    have bw1 : Below w.heap.size w w1 := Below.trans (by repeat (first | exact Below.refl _ _ | assumption | refine Below.alloc ?_ (by first | exact Nat.le_refl _ | (simp only [World.size_alloc, World.size_setCell, World.size_drew]; omega) | omega) _ | refine Below.setCell ?_ (by first | exact Nat.le_refl _ | (simp only [World.size_alloc, World.size_setCell, World.size_drew]; omega) | omega) _ | refine Below.drew ?_)) (hb1.mono (by first | (simp only [World.size_alloc, World.size_setCell, World.size_drew]; omega) | omega))
    have A0_1 : Box3 w1 w.heap.size (.int .i64 n0) (.int .i64 m0) (.slice a0 xs0.length cap0) := ⟨by have := hb1.size; simp at this; omega, (hb1.cell (p := ⟨w.heap.size, 0, none⟩) (by simp <;> omega)).trans (by simp), (hb1.cell (p := ⟨w.heap.size, 1, none⟩) (by simp <;> omega)).trans (by simp), (hb1.cell (p := ⟨w.heap.size, 2, none⟩) (by simp <;> omega)).trans (by simp)⟩
    have ⟨zA0_1, cA0_1, dA0_1, eA0_1⟩ := A0_1
    go_wp2_with fail
    go_ret
    exact ⟨rfl, bw1⟩
  go_enter Try.func14, Try.ntmps14
  go_wp2_with fail
  refine (szTable_ok (by omega) (by omega)).mono ?_
  rintro e w1 ⟨rfl, hb⟩
  have bw1 : Below w.heap.size w w1 := Below.trans (by repeat (first | exact Below.refl _ _ | assumption | refine Below.alloc ?_ (by first | exact Nat.le_refl _ | (simp only [World.size_alloc, World.size_setCell, World.size_drew]; omega) | omega) _ | refine Below.setCell ?_ (by first | exact Nat.le_refl _ | (simp only [World.size_alloc, World.size_setCell, World.size_drew]; omega) | omega) _ | refine Below.drew ?_)) (hb.mono (by first | (simp only [World.size_alloc, World.size_setCell, World.size_drew]; omega) | omega))
  have z1 : w.heap.size ≤ w1.heap.size := bw1.size
  have A0_1 : Box3 w1 w.heap.size (.int .i64 n0) (.int .i64 m0) (.slice a0 xs0.length cap0) := ⟨by have := hb.size; simp at this; omega, (hb.cell (p := ⟨w.heap.size, 0, none⟩) (by simp <;> omega)).trans (by simp), (hb.cell (p := ⟨w.heap.size, 1, none⟩) (by simp <;> omega)).trans (by simp), (hb.cell (p := ⟨w.heap.size, 2, none⟩) (by simp <;> omega)).trans (by simp)⟩
  have ⟨zA0_1, cA0_1, dA0_1, eA0_1⟩ := A0_1
  clear hb
  go_wp2_with fail
  refine (toTable_any _ _ _ _ _ _ (hx0.below bw1) (by omega)).mono ?_
  rintro e w2 ⟨pT0, qT0, rfl, ho, hb⟩
  have ht : Below w1.heap.size w1 w2 := hb
  have z2 : w1.heap.size ≤ w2.heap.size := ht.size
  have bw2 : Below w.heap.size w w2 := bw1.trans (ht.mono bw1.size)
  have A0_2 := A0_1.below ht
  have ⟨zA0_2, cA0_2, dA0_2, eA0_2⟩ := A0_2
  clear A0_1 cA0_1 dA0_1 eA0_1
  have T0_2 := ho
  have UT0 := T0_2.cut (Nat.le_refl _)
  clear ho
  clear ht hb
  go_wp2_with fail
  refine (sTabText_any _ _ _ _ _ _ hn0 hm0 (T0_2.rd)).mono ?_
  rintro e w3 ⟨rfl, hb⟩
  have ht : Below w2.heap.size w2 w3 := hb
  have z3 : w2.heap.size ≤ w3.heap.size := ht.size
  have bw3 : Below w.heap.size w w3 := bw2.trans (ht.mono bw2.size)
  have A0_3 := A0_2.below ht
  have ⟨zA0_3, cA0_3, dA0_3, eA0_3⟩ := A0_3
  have T0_3 := T0_2.below ht (Nat.le_refl _)
  clear A0_2 cA0_2 dA0_2 eA0_2 T0_2
  clear ht hb
  go_wp2_with fail
  clear T0_3 UT0
  refine (toTable_any _ _ _ _ _ _ (hx0.below bw3) (by omega)).mono ?_
  rintro e w4 ⟨pX0, qX0, rfl, ho, hb⟩
  have ht : Below w3.heap.size w3 w4 := hb
  have z4 : w3.heap.size ≤ w4.heap.size := ht.size
  have bw4 : Below w.heap.size w w4 := bw3.trans (ht.mono bw3.size)
  have A0_4 := A0_3.below ht
  have ⟨zA0_4, cA0_4, dA0_4, eA0_4⟩ := A0_4
  clear A0_3 cA0_3 dA0_3 eA0_3
  have X0_4 := ho
  have UX0 := X0_4.cut (Nat.le_refl _)
  clear ho
  clear ht hb
  go_wp2_with fail
  refine (iTabText_any _ _ _ _ _ _ hn0 hm0 (X0_4.rd.below (by repeat (first | exact Below.refl _ _ | assumption | refine Below.alloc ?_ (by first | exact Nat.le_refl _ | (simp only [World.size_alloc, World.size_setCell, World.size_drew]; omega) | omega) _ | refine Below.setCell ?_ (by first | exact Nat.le_refl _ | (simp only [World.size_alloc, World.size_setCell, World.size_drew]; omega) | omega) _ | refine Below.drew ?_)))).mono ?_
  rintro e w5 ⟨rfl, hb⟩
  have ht : Below w4.heap.size w4 w5 := Below.trans (by repeat (first | exact Below.refl _ _ | assumption | refine Below.alloc ?_ (by first | exact Nat.le_refl _ | (simp only [World.size_alloc, World.size_setCell, World.size_drew]; omega) | omega) _ | refine Below.setCell ?_ (by first | exact Nat.le_refl _ | (simp only [World.size_alloc, World.size_setCell, World.size_drew]; omega) | omega) _ | refine Below.drew ?_)) (hb.mono (by first | (simp only [World.size_alloc, World.size_setCell, World.size_drew]; omega) | omega))
  have z5 : w4.heap.size ≤ w5.heap.size := ht.size
  have bw5 : Below w.heap.size w w5 := bw4.trans (ht.mono bw4.size)
  have A0_5 := A0_4.below ht
  have BX0_5 : Box3 w5 w4.heap.size (.int .i64 n0) (.int .i64 m0) (.slice pX0 xs0.length qX0) := (Box3.new w4 _ _ _ 27).below hb
  have ⟨zA0_5, cA0_5, dA0_5, eA0_5⟩ := A0_5
  have ⟨zBX0_5, cBX0_5, dBX0_5, eBX0_5⟩ := BX0_5
  have X0_5 := X0_4.below ht (Nat.le_refl _)
  clear A0_4 cA0_4 dA0_4 eA0_4 X0_4
  clear ht hb
  go_wp2_with fail
  go_region_held3 (fun w' => w'.cell? ⟨w.heap.size, 0, none⟩ = some (.int .i64 n0) ∧ w'.cell? ⟨w.heap.size, 1, none⟩ = some (.int .i64 m0) ∧ w'.cell? ⟨w.heap.size, 2, none⟩ = some (.slice a0 xs0.length cap0) ∧ w'.cell? ⟨w4.heap.size, 0, none⟩ = some (.int .i64 n0) ∧ w'.cell? ⟨w4.heap.size, 1, none⟩ = some (.int .i64 m0) ∧ w'.cell? ⟨w4.heap.size, 2, none⟩ = some (.slice pX0 xs0.length qX0))
    (first | exact ⟨P7.2.1, P7.2.2.1, P7.2.2.2, Q7.2.1, Q7.2.2.1, Q7.2.2.2⟩ | exact ⟨P6.2.1, P6.2.2.1, P6.2.2.2, Q6.2.1, Q6.2.2.1, Q6.2.2.2⟩ | go_keep)
    (first | (go_at_call 17; refine (toTable_any _ _ _ _ _ _ (hx0.below (bw5.trans (Joins.below_draws _ _ _))) (by omega)).mono ?_; rintro e w6 ⟨a6', cap6', rfl, ho6, hb6⟩; have ht6 : Below w5.heap.size w5 w6 := (Joins.below_draws _ _ _).trans hb6; have P6 := A0_5.below ht6; have Q6 := BX0_5.below ht6) | (go_at_call 19; refine (eqTable_same _ _ _ _ xs0 _ _ _ (X0_5.rd.below ht6) ho6.rd).mono ?_; rintro e w7 ⟨rfl, hb7⟩; have P7 := P6.below hb7; have Q7 := Q6.below hb7))
  have ht : Below w5.heap.size w5 w7 := ht6.trans (hb7.mono ht6.size)
  have z7 : w5.heap.size ≤ w7.heap.size := ht.size
  have bw7 : Below w.heap.size w w7 := bw5.trans (ht.mono bw5.size)
  clear P6 Q6 P7 Q7 ho6
  have A0_7 := A0_5.below ht
  have BX0_7 := BX0_5.below ht
  have ⟨zA0_7, cA0_7, dA0_7, eA0_7⟩ := A0_7
  have ⟨zBX0_7, cBX0_7, dBX0_7, eBX0_7⟩ := BX0_7
  have X0_7 := X0_5.below ht (Nat.le_refl _)
  clear A0_5 cA0_5 dA0_5 eA0_5 BX0_5 cBX0_5 dBX0_5 eBX0_5 X0_5
  clear ht hb7 ht6 hb6
  go_wp2_with fail
  go_ret
  exact ⟨rfl, bw7⟩

theorem rd_of_trod {H : Type} {enc : TypeId × Value → H} {W : World} {fuel : Nat} {c : Value} {y : DataW H × List MemPlace}
    (h : DataW.trod enc Try.prog W 0 (fun _ => true) true fuel 22 [c] = some y) : ∃ (a : Option Addr) (xs : List Int) (cap : Nat), c = .slice a xs.length cap ∧ Rd W a xs ∧ ∀ k, k < xs.length → (Lit.int .i64 (nth xs k)).wf = true := by
  rcases Go.ChangeShapes.open_ints Try.underlying22 Try.underlying3 (by kernel_rfl) h with ⟨hcs, _⟩ | ⟨x, len, cap, zs, hcs, _, hl, hm, hz, _, hcell, hwf⟩
  · simp only [List.cons.injEq, and_true] at hcs
    exact ⟨none, [], 0, hcs, ⟨by simp, fun k hk => by simp at hk⟩, fun k hk => by simp at hk⟩
  · simp only [List.cons.injEq, and_true] at hcs
    simp only [if_true] at hz
    have hlen : (zs.take len).length = len := by rw [List.length_take]; omega
    have hn : ∀ k, k < len → nth (zs.take len) k = zs.getD k 0 := by
      intro k hk
      simp only [nth, List.getD_eq_getElem?_getD, List.getElem?_take, hk, if_true]
    refine ⟨some x, zs.take len, cap, by rw [hlen]; exact hcs, ⟨by rw [hlen]; unfold maxLen at hm; omega, fun k hk => ?_⟩, fun k hk => ?_⟩
    · rw [hlen] at hk
      obtain ⟨b, off, sp⟩ := x
      have h0 := hcell 0 (by omega)
      have hsp : sp = none := by simpa [Addr.add] using World.cell?_spot h0
      subst hsp
      have hk' := hcell k (by omega)
      rw [Addr.add_lit] at hk'
      exact ⟨b, off, rfl, World.block_lt_of_cell? _ _ h0, by rw [hk', hn k hk]⟩
    · rw [hlen] at hk
      rw [hn k hk]
      have hk2 : k < zs.length := by omega
      exact hwf _ (by rw [List.getD_eq_getElem?_getD, List.getElem?_eq_getElem hk2]; exact List.getElem_mem hk2)

theorem own : ownKnob Try.prog.godebug = none := by kernel_rfl
theorem laidOut : laidOutB Try.prog = true := by kernel_rfl
theorem wf_bd {n : Int} (h : (Lit.int .i64 n).wf = true) : -9223372036854775808 ≤ n ∧ n ≤ 9223372036854775807 := by
  simp [Lit.wf, IntKind.min, IntKind.max, IntKind.bits, IntKind.signed] at h
  omega

theorem cellsT : Try.prog.cellsOf 24 = 3 := by kernel_rfl

open Go.ChangeShapes Go.WideShapes Go.ChangeAt Go.RowKit in
set_option maxRecDepth 100000 in
theorem lifted (os : Os) (started : os.Started) (H : Type) (enc : TypeId × Value → H) :
    ReturnsInHanded {} Try.checked os 14 .any (Rows.fnExactTableTextSpec.pre6 enc Try.prog Try.f14 Rows.fnExactTableTextRow.domain false) (Rows.fnExactTableTextSpec.post enc Try.prog Try.f14 false true false false) := by
  refine returnsInHanded_of_change (C := Try.checked) own started (by kernel_rfl) Try.func14
    (ChangeSpec.witness6 (enc := enc) (C := Try.checked) false ⟨#[], #[.agg #[.int .i64 0, .int .i64 0, .slice none 0 0]], []⟩ 8 (by kernel_rfl) (by kernel_rfl) (by kernel_rfl) (by kernel_rfl)) ?_
  intro W base args ds gs before hval0 hW hcnd _
  have hval : ∀ (j : Nat) t v, Try.f14.params[j]? = some t → args[j]? = some v → Value.okWide Try.prog W .any base t v := hval0
  have hW' := hW
  obtain ⟨p, q, hA0, hV, rfl, hfz, hnd⟩ := hW
  have hA : DataW.TrodAll enc Try.prog W 0 (fun _ => true) true Try.f14.params.toList args.toList ds p := hA0
  rw [Try.params14] at hA hval
  obtain ⟨v0, vs0, d0, ds0, p0, q0, hargs, rfl, rfl, h0, r0⟩ := trodAll_cons hA
  obtain ⟨rfl, rfl, rfl⟩ := trodAll_nil r0
  obtain rfl : args = #[v0] := by cases args; simp_all
  obtain ⟨rfl, rfl⟩ := trodVars_none hV
  have lt0 : ∀ x ∈ p0, x.block < W.heap.size := by obtain ⟨m, hm⟩ := h0; exact DataW.trod_lt m _ _ _ hm
  obtain ⟨c00, c01, c02, y00, y01, y02, m0, rfl, hd0, hp0, hy00, hy01, hy02⟩ := Go.Joins.open_agg3 Try.underlying24 (by kernel_rfl) cellsT (hval 0 24 v0 rfl rfl) h0
  obtain ⟨n0, e00, _, wf0⟩ := DataW.trod_int Try.underlying3 hy00
  obtain ⟨m0', e01, _, wg0⟩ := DataW.trod_int Try.underlying3 hy01
  simp only [List.cons.injEq, and_true] at e00 e01
  subst e00 e01
  obtain ⟨a0, xs0, cap0, rfl, rd0, wl0⟩ := rd_of_trod hy02
  clear hA0 hval0
  refine (walk n0 m0' a0 xs0 cap0 W (wf_bd wf0) (wf_bd wg0) rd0).mono fun e W' ⟨he, bel⟩ => ?_
  subst he
  exact ⟨_, rfl, _, _, _, [], _, [], hW', trodAll_mk1 (shut_bool Try.underlying4 _), (trodAll_cons_mk (Below.trod laidOut (by kernel_rfl) (of_decide_eq_true (by kernel_rfl)) h0 bel lt0) trodAll_mk0), rfl, bel.frame _, fun h => by cases h⟩
theorem proved : Rows.FnExactTableTextSaid :=
  OpenClaim.holds_of_wide 14 Try.f14 rfl rfl rfl rfl rfl rfl rfl ⟨rfl, rfl, rfl, rfl, rfl⟩ rfl rfl rfl rfl rfl (by kernel_rfl) Try.func14 (by kernel_rfl)
    (of_decide_eq_true (by kernel_rfl)) (by unfold Func.isWrapper; first | (rw [if_pos (by decide +kernel)]; kernel_rfl) | (rw [if_neg (by decide +kernel)]; exact ⟨rfl, rfl⟩))
    (fun os started H enc _ => lifted os started H enc)

end Go.Proofs.Ytkfgeccgcffgaaa.tableText
