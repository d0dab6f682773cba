/- PROVED: the law FnExactTableOfOrder returns true for every input, and each of its arguments reads afterwards as before. No conditions. -/
import Derived.Test.YtkfgeccgcffgaaaRows
import Derived.WalkKit
import Derived.WalkSpells
import Derived.WalkLawsBesides
import Derived.Deep.QuietTactic
import Derived.BigQuiet
import Derived.ProofKit
import Derived.OpenShut
import Derived.ShutString
import Derived.ChangeOld
import Derived.Below
import Derived.Lib.SmallJoins
import Derived.Lib.Hide
import Derived.Maps.AppendAt
import Derived.Deep.AppendLies
import Derived.Deep.RegionHeld3
namespace Go.Proofs.Ytkfgeccgcffgaaa.tableOfOrder
open Go Go.RowKit
set_option linter.unusedVariables false
set_option linter.unusedSimpArgs false
set_option maxHeartbeats 400000


/-- a number of a list; a plain function, which the walk leaves alone -/
def nth (xs : List Int) (k : Nat) : Int := xs.getD k 0
theorem nth_get (xs : List Int) (k : Nat) (h : k < xs.length) : nth xs k = xs[k] := by simp [nth, h]
/-- the slice at an address reads as a list -/
structure Rd (w : World) (a : Option Addr) (xs : List Int) : Prop where
  len : xs.length ≤ 9223372036854775807
  cell : ∀ k, k < xs.length → ∃ b off, a = some ⟨b, off, none⟩ ∧ b < w.heap.size ∧ w.cell? ⟨b, off + k, none⟩ = some (.int .i64 (nth xs k))
theorem Rd.below {w w' : World} {a : Option Addr} {xs : List Int} (h : Rd w a xs) (hb : Below w.heap.size w w') : Rd w' a xs :=
  ⟨h.len, fun k hk => by
    obtain ⟨b, off, e, hl, hc⟩ := h.cell k hk
    exact ⟨b, off, e, Nat.lt_of_lt_of_le hl hb.size, (hb.cell (World.block_lt_of_cell? _ _ hc)).trans hc⟩⟩
theorem Rd.mid {w w1 w2 : World} {a : Option Addr} {xs : List Int} {B : Nat} (h : Rd w a xs) (hb : Below B w1 w2) (hB : w.heap.size ≤ B) (h1 : Rd w1 a xs) : Rd w2 a xs :=
  ⟨h.len, fun k hk => by
    obtain ⟨b, off, e, hl, hc⟩ := h.cell k hk
    obtain ⟨b', off', e', hl', hc'⟩ := h1.cell k hk
    rw [e] at e'
    simp only [Option.some.injEq, Addr.mk.injEq, and_true] at e'
    obtain ⟨rfl, rfl⟩ := e'
    exact ⟨b, off, e, Nat.lt_of_lt_of_le hl' hb.size, (hb.cell (by show b < B; omega)).trans hc'⟩⟩
theorem Rd.alloc {w : World} {a : Option Addr} {xs : List Int} (h : Rd w a xs) (o : Obj) : Rd (w.alloc o) a xs :=
  h.below ((Below.refl _ _).alloc (Nat.le_refl _) o)
theorem Rd.same {w w' : World} {a : Option Addr} {xs : List Int} (h : Rd w a xs) (hs : w.heap.size ≤ w'.heap.size)
    (hb : ∀ b off, a = some ⟨b, off, none⟩ → w'.heap[b]? = w.heap[b]?) : Rd w' a xs :=
  ⟨h.len, fun k hk => by
    obtain ⟨b, off, e, hl, hc⟩ := h.cell k hk
    exact ⟨b, off, e, Nat.lt_of_lt_of_le hl hs, (World.cell?_of_block (w := w) (a := ⟨b, off + k, none⟩) (hb b off e)).trans hc⟩⟩
/-- a slice value that owns the row of these integers, in a block from B on -/
def OwnI (w : World) (B : Nat) (v : Value) (xs : List Int) : Prop := w.ownsRow B 3 1 v xs.length (xs.map (Value.int .i64))
theorem OwnI.form {w : World} {B : Nat} {v : Value} {xs : List Int} (h : OwnI w B v xs) : ∃ a cap, v = .slice a xs.length cap := by
  rcases h.2 with ⟨rfl, h0⟩ | ⟨g, cap, cur, rfl, _⟩
  · exact ⟨none, 0, by rw [h0]⟩
  · exact ⟨_, _, rfl⟩
theorem OwnI.rd {w : World} {B n cap : Nat} {a : Option Addr} {xs : List Int} (h : OwnI w B (.slice a n cap) xs) : Rd w a xs := by
  rcases h.2 with ⟨e, h0⟩ | ⟨g, cap', cur, e, hb, hg, hn, hm, hs, ht⟩
  · exact ⟨by omega, fun k hk => by omega⟩
  · simp only [Value.slice.injEq] at e
    obtain ⟨rfl, rfl, rfl⟩ := e
    refine ⟨by unfold maxLen at hm; omega, fun k hk => ⟨g, 0, rfl, (Array.getElem?_eq_some_iff.1 hg).1, ?_⟩⟩
    have := World.ownsRow.cellAt h k (by omega)
    rw [Nat.zero_add, this]
    simp [nth, hk]
theorem OwnI.blk {w : World} {B n cap : Nat} {a : Option Addr} {xs : List Int} (h : OwnI w B (.slice a n cap) xs) : ∀ b off s, a = some ⟨b, off, s⟩ → B ≤ b ∧ b < w.heap.size := by
  intro b off s e
  subst e
  exact World.ownsRow.lt h b rfl
theorem OwnI.kept {w w' : World} {B : Nat} {v : Value} {xs : List Int} {row : Option Nat} (h : OwnI w B v xs) (hg : w.grownBy w' row) (hne : v.ownBlock = none ∨ v.ownBlock ≠ row) : OwnI w' B v xs := World.ownsRow.kept h hg hne
theorem OwnI.mono {w : World} {B B' : Nat} {v : Value} {xs : List Int} (h : OwnI w B v xs) (hB : B' ≤ B) : OwnI w B' v xs := by
  refine ⟨h.1, ?_⟩
  rcases h.2 with hn | ⟨g, cap, cur, e, hb, rest⟩
  · exact .inl hn
  · exact .inr ⟨g, cap, cur, e, by omega, rest⟩
theorem OwnI.below {w w' : World} {B B' : Nat} {v : Value} {xs : List Int} (h : OwnI w B v xs) (hb : Below B' w w') (hB : w.heap.size ≤ B') : OwnI w' B v xs := by
  refine ⟨h.1, ?_⟩
  rcases h.2 with hn | ⟨g, cap, cur, e, hb', hg, rest⟩
  · exact .inl hn
  · refine .inr ⟨g, cap, cur, e, hb', ?_, rest⟩
    rw [hb.block g (by have := (Array.getElem?_eq_some_iff.1 hg).1; omega)]
    exact hg
theorem ret_bool {a b : Bool} (h : a = b) : Ending.returned (.bool a) = .returned (.bool b) := by rw [h]
theorem ret_int {a b : Int} (h : a = b) : Ending.returned (.int .i64 a) = .returned (.int .i64 b) := by rw [h]
theorem val_int {a b : Int} (h : a = b) : Value.int .i64 a = .int .i64 b := by rw [h]
theorem grown_below {w w' : World} {g : Nat} (h : w.grownBy w' (some g)) (B : Nat) (hB : B ≤ g) (hs : B ≤ w.heap.size) : Below B w w' :=
  ⟨h.os, h.tape, h.output, h.size, fun k hk => h.block k (by omega) (by intro e; simp only [Option.some.injEq] at e; omega)⟩
theorem below_grown {w w' : World} {B : Nat} (h : Below B w w') (hB : w.heap.size ≤ B) (row : Option Nat) : w.grownBy w' row :=
  ⟨h.os, h.tape, h.output, h.size, fun k hk _ => h.block k (by omega)⟩
theorem bcell {W w1 : World} (hb : Below W.heap.size W w1) : (∀ b o, b < W.heap.size → w1.cell? ⟨b, o, none⟩ = W.cell? ⟨b, o, none⟩) ∧ (∀ b o, b < W.heap.size → w1.frozen? ⟨b, o, none⟩ = W.frozen? ⟨b, o, none⟩) :=
  ⟨fun b o h => hb.cell (p := ⟨b, o, none⟩) h, fun b o h => hb.frozen (p := ⟨b, o, none⟩) h⟩
theorem infoInt : (Try.prog.info? 3).map (fun i => (i.zero, i.size, i.bytes)) = some (some (.int .i64 0), 1, 8) := by kernel_rfl
theorem OwnI.setBelow {w : World} {B : Nat} {v : Value} {xs : List Int} (h : OwnI w B v xs) {p : Addr} (hp : p.block < B) (u : Value) : OwnI (w.setCell p u) B v xs := ownsRow_setCell_below h hp u
theorem OwnI.alloc {w : World} {B : Nat} {v : Value} {xs : List Int} (h : OwnI w B v xs) (o : Obj) : OwnI (w.alloc o) B v xs := h.below ((Below.refl _ _).alloc (Nat.le_refl _) o) (Nat.le_refl _)
theorem Below.mono' {B B' : Nat} {w w' : World} (h : Below B w w') (hB : B' ≤ B) : Below B' w w' := h.mono hB
/-- a block that holds two cells -/
def Box2 (w : World) (b : Nat) (u v : Value) : Prop := b < w.heap.size ∧ w.cell? ⟨b, 0, none⟩ = some u ∧ w.cell? ⟨b, 1, none⟩ = some v
theorem Box2.below {w w' : World} {b : Nat} {u v : Value} (h : Box2 w b u v) (hb : Below w.heap.size w w') : Box2 w' b u v :=
  ⟨Nat.lt_of_lt_of_le h.1 hb.size, (hb.cell (p := ⟨b, 0, none⟩) h.1).trans h.2.1, (hb.cell (p := ⟨b, 1, none⟩) h.1).trans h.2.2⟩
theorem Box2.new (w : World) (u v : Value) (t : TypeId) : Box2 (w.alloc (.cells #[u, v] t)) w.heap.size u v :=
  ⟨by simp, by simp, by simp⟩
theorem Box2.kept {w w' : World} {b : Nat} {u v : Value} {row : Option Nat} (h : Box2 w b u v) (hg : w.grownBy w' row) (hne : some b ≠ row) : Box2 w' b u v :=
  ⟨Nat.lt_of_lt_of_le h.1 hg.size, hg.cell h.2.1 hne, hg.cell h.2.2 hne⟩
theorem OwnI.lt {w : World} {B : Nat} {v : Value} {xs : List Int} (h : OwnI w B v xs) : ∀ b, v.ownBlock = some b → B ≤ b ∧ b < w.heap.size := World.ownsRow.lt h
theorem OwnI.cut {w : World} {B : Nat} {v : Value} {xs : List Int} (h : OwnI w B v xs) {U : Nat} (hU : w.heap.size ≤ U) : ∀ b, v.ownBlock = some b → B ≤ b ∧ b < U := fun b e => ⟨(h.lt b e).1, Nat.lt_of_lt_of_le (h.lt b e).2 hU⟩
/-- a block of two cells that may be written -/
def Var2 (w : World) (b : Nat) (u v : Value) : Prop := Box2 w b u v ∧ w.frozen? ⟨b, 0, none⟩ = false ∧ w.frozen? ⟨b, 1, none⟩ = false
theorem Var2.below {w w' : World} {b : Nat} {u v : Value} (h : Var2 w b u v) (hb : Below w.heap.size w w') : Var2 w' b u v :=
  ⟨h.1.below hb, (hb.frozen (p := ⟨b, 0, none⟩) h.1.1).trans h.2.1, (hb.frozen (p := ⟨b, 1, none⟩) h.1.1).trans h.2.2⟩
theorem Var2.new (w : World) (u v : Value) (t : TypeId) : Var2 (w.alloc (.cells #[u, v] t)) w.heap.size u v :=
  ⟨Box2.new w u v t, by simp, by simp⟩
theorem Var2.alloc {w : World} {b : Nat} {u v : Value} (h : Var2 w b u v) (o : Obj) : Var2 (w.alloc o) b u v := h.below ((Below.refl _ _).alloc (Nat.le_refl _) o)
theorem Var2.kept {w w' : World} {b : Nat} {u v : Value} {row : Option Nat} (h : Var2 w b u v) (hg : w.grownBy w' row) (hne : some b ≠ row) : Var2 w' b u v :=
  ⟨h.1.kept hg hne, (World.frozen?_of_block (w := w) (a := ⟨b, 0, none⟩) (hg.block b h.1.1 hne)).trans h.2.1, (World.frozen?_of_block (w := w) (a := ⟨b, 1, none⟩) (hg.block b h.1.1 hne)).trans h.2.2⟩
theorem Var2.set {w : World} {b : Nat} {u v : Value} (h : Var2 w b u v) (u' v' : Value) : Var2 ((w.setCell ⟨b, 0, none⟩ u').setCell ⟨b, 1, none⟩ v') b u' v' := by
  refine ⟨⟨by simpa using h.1.1, ?_, ?_⟩, by simpa using h.2.1, by simpa using h.2.2⟩
  · rw [World.cell?_setCell_other _ _ _ _ (by simp), World.cell?_setCell_same _ _ _ h.1.2.1]
  · rw [World.cell?_setCell_same _ _ _ (u := v) (by rw [World.cell?_setCell_other _ _ _ _ (by simp)]; exact h.1.2.2)]
theorem grown_set (w : World) (p : Addr) (u : Value) : w.grownBy (w.setCell p u) (some p.block) :=
  ⟨rfl, rfl, rfl, by simp, fun k hk hn => Below.heap_setCell w p u k (fun e => hn (by rw [e]))⟩
theorem Var2.set1 {w : World} {b : Nat} {u v : Value} (h : Var2 w b u v) (v' : Value) : Var2 (w.setCell ⟨b, 1, none⟩ v') b u v' := by
  refine ⟨⟨by simpa using h.1.1, ?_, ?_⟩, by simpa using h.2.1, by simpa using h.2.2⟩
  · rw [World.cell?_setCell_other _ _ _ _ (by simp)]; exact h.1.2.1
  · rw [World.cell?_setCell_same _ _ _ h.1.2.2]
theorem Box2.set {w : World} {b : Nat} {u v : Value} (h : Box2 w b u v) {p : Addr} (x : Value) (hne : b ≠ p.block) : Box2 (w.setCell p x) b u v :=
  h.kept (grown_set w p x) (by simpa using hne)
theorem Var2.other {w : World} {b : Nat} {u v : Value} (h : Var2 w b u v) {p : Addr} (x : Value) (hne : b ≠ p.block) : Var2 (w.setCell p x) b u v :=
  h.kept (grown_set w p x) (by simpa using hne)
theorem ne_own {v : Value} {b : Nat} (h : ∀ c, v.ownBlock = some c → c ≠ b) : some b ≠ v.ownBlock := fun e => h b e.symm rfl
theorem grown_alloc_set {w w1 : World} {r : Option Nat} {o : Obj} (h : (w.alloc o).grownBy w1 r) : w.grownBy w1 r :=
  ⟨h.os, h.tape, h.output, by have := h.size; simp at this; omega, fun k hk hn => (h.block k (by simp; omega) hn).trans (Below.heap_alloc w o k hk)⟩
theorem grown_trans {w w1 w2 : World} {r : Option Nat} (h1 : w.grownBy w1 r) (h2 : w1.grownBy w2 r) : w.grownBy w2 r :=
  ⟨h2.os.trans h1.os, h2.tape.trans h1.tape, h2.output.trans h1.output, Nat.le_trans h1.size h2.size, fun k hk hn => (h2.block k (by have := h1.size; omega) hn).trans (h1.block k hk hn)⟩
theorem OwnI.nil (w : World) (B : Nat) : OwnI w B (.slice none 0 0) [] := World.ownsRow_nil _ _ _ _
theorem below_of_grown {w w' : World} {v : Value} {B : Nat} (hg : w.grownBy w' v.ownBlock) (hB : ∀ b, v.ownBlock = some b → B ≤ b) (hs : B ≤ w.heap.size) : Below B w w' :=
  ⟨hg.os, hg.tape, hg.output, hg.size, fun k hk => hg.block k (by omega) (fun e => by have := hB k e.symm; omega)⟩

def szF (left : Int) (n : Nat) : Int := if left - n < 0 then -1 else left - n
theorem szIntS_any (a : Option Addr) (n cap : Nat) (l : Int) (w : World) (h0 : 0 ≤ l) (h1 : l ≤ 1048576) (hn : n ≤ 9223372036854775807) :
    Calls Try.prog 52 #[.slice a n cap, .int .i64 l] w fun e w' => e = .returned (.int .i64 (szF l n)) ∧ w = w' := by
  by_cases h : l - n < 0
  · go_enter Try.func52, Try.ntmps52
    go_wp2
    go_ret
    exact ⟨ret_int (by simp [szF, h]), rfl⟩
  · go_enter Try.func52, Try.ntmps52
    go_wp2
    go_ret
    exact ⟨ret_int (by rw [szF, if_neg (by omega)]), rfl⟩

theorem szOrder_any (n : Int) (a : Option Addr) (len cap : Nat) (l : Int) (w : World) (h0 : 0 ≤ l) (h1 : l ≤ 1048576) (hn : len ≤ 9223372036854775807) :
    Calls Try.prog 35 #[.agg #[.int .i64 n, .slice a len cap], .int .i64 l] w fun e w' => e = .returned (.int .i64 (szF l len)) ∧ Below w.heap.size w w' := by
  by_cases h : l - len < 0
  · have hs : szF l len = -1 := by simp [szF, h]
    rw [hs]
    have HS := Lib.hid hs
    clear hs
    go_enter Try.func35, Try.ntmps35
    go_wp2_with (go_at_call 52; refine (szIntS_any _ _ _ _ _ h0 h1 hn).mono ?_; rintro e w' ⟨rfl, rfl⟩; rw [HS.out])
    go_ret
    exact ⟨rfl, (Below.refl _ _).alloc (Nat.le_refl _) _⟩
  · have hs : szF l len = l - len := by rw [szF, if_neg (by omega)]
    have hp : 0 ≤ szF l len := by omega
    clear hs
    go_enter Try.func35, Try.ntmps35
    go_wp2_with (go_at_call 52; refine (szIntS_any _ _ _ _ _ h0 h1 hn).mono ?_; rintro e w' ⟨rfl, rfl⟩)
    go_ret
    exact ⟨rfl, (Below.refl _ _).alloc (Nat.le_refl _) _⟩

theorem szOrder_ok {n : Int} {a : Option Addr} {len cap : Nat} {l : Int} {w : World} (h1 : l ≤ 1048576) (h : len ≤ l) :
    Calls Try.prog 35 #[.agg #[.int .i64 n, .slice a len cap], .int .i64 l] w fun e w' => e = .returned (.int .i64 (l - len)) ∧ Below w.heap.size w w' :=
  (szOrder_any n a len cap l w (by omega) h1 (by omega)).mono (fun e w' hh => ⟨by rw [hh.1, szF, if_neg (by omega)], hh.2⟩)
theorem szOrder_no {n : Int} {a : Option Addr} {len cap : Nat} {l : Int} {w : World} (h0 : 0 ≤ l) (h1 : l ≤ 1048576) (h : l < len) (hl : len ≤ 9223372036854775807) :
    Calls Try.prog 35 #[.agg #[.int .i64 n, .slice a len cap], .int .i64 l] w fun e w' => e = .returned (.int .i64 (-1)) ∧ Below w.heap.size w w' :=
  (szOrder_any n a len cap l w h0 h1 hl).mono (fun e w' hh => ⟨by rw [hh.1, szF, if_pos (by omega)], hh.2⟩)

theorem set_step (xs : List Int) (k : Nat) (h : k < xs.length) :
    ((xs.take k ++ List.replicate (xs.length - k) (0:Int)).map (Value.int .i64)).set k (.int .i64 (nth xs k)) = (xs.take (k+1) ++ List.replicate (xs.length - (k+1)) (0:Int)).map (Value.int .i64) := by
  apply List.ext_getElem?
  intro j
  have hk : (xs.take k).length = k := by simp; omega
  have hk1 : (xs.take (k+1)).length = k+1 := by simp; omega
  rw [List.getElem?_set]
  by_cases hj : k = j
  · subst hj
    rw [if_pos rfl, if_pos (by simp; omega), List.getElem?_map, List.getElem?_append_left (by omega)]
    simp [nth, h]
  · simp only [hj, if_false, List.getElem?_map, List.getElem?_append, hk, hk1, List.getElem?_take, List.getElem?_replicate]
    by_cases h1 : j < k
    · have h2 : j < k + 1 := by omega
      simp [h1, h2]
    · have h2 : ¬ j < k + 1 := by omega
      have h3 : j - k < xs.length - k ↔ j - (k+1) < xs.length - (k+1) := by omega
      simp [h1, h2, h3]
theorem toIntS_any (a : Option Addr) (xs : List Int) (cap : Nat) (w : World) (hx : Rd w a xs) (hn : xs.length ≤ 1048576) :
    Calls Try.prog 38 #[.slice a xs.length cap] w fun e w' => ∃ a' cap', e = .returned (.slice a' xs.length cap') ∧ OwnI w' w.heap.size (.slice a' xs.length cap') xs ∧ Below w.heap.size w w' := by
  obtain ⟨i0, hi, hz0, hz1, hz2⟩ := info_parts infoInt
  go_enter Try.func38, Try.ntmps38
  go_wp2_with (at_make; refine wpList_make_full _ rfl (.tmp 6) (.tmp 6) 22 rfl w.heap.size 3 i0 (.int .i64 0) 1 Try.underlying22 hi hz0 hz1 .i64 .i64 _ _ xs.length rfl rfl rfl rfl (by rw [hz2]; omega) (by unfold maxLen; omega) (Nat.le_refl _) ?_; intro w1 hown hgrow)
  have hb0 : Below w.heap.size w w1 := (Below.refl _ _).grown hgrow (Nat.le_refl _) (fun k h => by cases h)
  have hown0 : w1.ownsRow w.heap.size 3 1 (.slice (some ⟨w.heap.size, 0, none⟩) xs.length xs.length) xs.length ((xs.take 0 ++ List.replicate (xs.length - 0) (0:Int)).map (Value.int .i64)) := by
    simpa [Value.cells, toList_madeCells_one] using hown
  clear hown hgrow
  have hz : w.heap.size < w1.heap.size := by
    have := (World.ownsRow.lt hown0 w.heap.size rfl).2
    omega
  go_loopw [4] (fun i wr => ∃ k : Nat, k ≤ xs.length ∧ i = .int .i64 k ∧ wr.ownsRow w.heap.size 3 1 (.slice (some ⟨w.heap.size, 0, none⟩) xs.length xs.length) xs.length ((xs.take k ++ List.replicate (xs.length - k) (0:Int)).map (Value.int .i64)) ∧ Below w.heap.size w wr) (fun i _ => xs.length - (intOf i).toNat)
  case atStart => exact ⟨0, Nat.zero_le _, rfl, hown0, hb0⟩
  case round =>
    obtain ⟨k, hk, rfl, hown, hb⟩ := hrel
    by_cases hlt : k < xs.length
    · obtain ⟨b, off, rfl, hbl, hc⟩ := hx.cell k hlt
      have hc1 := (hb.cell (p := ⟨b, off + k, none⟩) hbl).trans hc
      have hst := World.ownsRow.stored hown k (.int .i64 (nth xs k))
      rw [set_step xs k hlt] at hst
      have hcc := World.ownsRow.cellAt hown k (by omega)
      have hfr := World.ownsRow.frozenAt hown k
      have hcc' : ∃ u, wr.cell? ⟨w.heap.size, k, none⟩ = some u := by
        rw [hcc]
        exact ⟨_, List.getElem?_eq_getElem (by simp; omega)⟩
      obtain ⟨u, hu⟩ := hcc'
      have Hst := Lib.hid hst
      clear hst hcc hown hc
      go_wp2
      go_roundw
      case rel => exact ⟨k + 1, by omega, by go_num, Hst.out.1, hb.setCell (Nat.le_refl _) _⟩
      case measure => simp [intOf]; omega
    · obtain rfl : k = xs.length := by omega
      go_wp2
      go_ret
      refine ⟨_, _, rfl, ?_, hb⟩
      have : xs.take xs.length ++ List.replicate (xs.length - xs.length) (0:Int) = xs := by simp
      rw [this] at hown
      exact hown

theorem toOrder_any (n : Int) (a : Option Addr) (xs : List Int) (cap : Nat) (w : World) (hx : Rd w a xs) (hn : xs.length ≤ 1048576) :
    Calls Try.prog 37 #[.agg #[.int .i64 n, .slice a xs.length cap]] w fun e w' => ∃ a' cap', e = .returned (.agg #[.int .i64 n, .slice a' xs.length cap']) ∧ OwnI w' w.heap.size (.slice a' xs.length cap') xs ∧ Below w.heap.size w w' := by
  go_enter Try.func37, Try.ntmps37
  go_wp2_with fail
  refine (toIntS_any _ _ _ _ (hx.below (by repeat (first | exact Below.refl _ _ | assumption | refine Below.alloc ?_ (by first | exact Nat.le_refl _ | (simp only [World.size_alloc, World.size_setCell, World.size_drew]; omega) | omega) _ | refine Below.setCell ?_ (by first | exact Nat.le_refl _ | (simp only [World.size_alloc, World.size_setCell, World.size_drew]; omega) | omega) _ | refine Below.drew ?_))) hn).mono ?_
  rintro e w1 ⟨a', cap', rfl, hown, hb⟩
  obtain ⟨hc, hf⟩ := bcell hb
  have hz := hb.size
  simp only [World.size_alloc, World.size_setCell] at hz
  go_wp2
  have hown' := ((((hown.setBelow (p := ⟨w.heap.size + 1 + 1, 1, none⟩) (by first | (simp only [World.size_alloc, World.size_setCell, World.size_drew]; omega) | omega) (.slice a' xs.length cap')).setBelow (p := ⟨w.heap.size + 1, 0, none⟩) (by first | (simp only [World.size_alloc, World.size_setCell, World.size_drew]; omega) | omega) (.int .i64 n)).setBelow (p := ⟨w.heap.size + 1, 1, none⟩) (by first | (simp only [World.size_alloc, World.size_setCell, World.size_drew]; omega) | omega) (.slice a' xs.length cap'))).mono (B' := w.heap.size) (by first | (simp only [World.size_alloc, World.size_setCell, World.size_drew]; omega) | omega)
  have hb' : Below w.heap.size w w1 := Below.trans (by repeat (first | exact Below.refl _ _ | assumption | refine Below.alloc ?_ (by first | exact Nat.le_refl _ | (simp only [World.size_alloc, World.size_setCell, World.size_drew]; omega) | omega) _ | refine Below.setCell ?_ (by first | exact Nat.le_refl _ | (simp only [World.size_alloc, World.size_setCell, World.size_drew]; omega) | omega) _ | refine Below.drew ?_)) (hb.mono (by first | (simp only [World.size_alloc, World.size_setCell, World.size_drew]; omega) | omega))
  refine bodyPost_ret (v := .agg #[.int .i64 n, .slice a' xs.length cap']) (by simp [results, Try.results37, go_sem, hc]) rfl ⟨a', cap', rfl, hown', ?_⟩
  exact ((hb'.setCell (by first | exact Nat.le_refl _ | (simp only [World.size_alloc, World.size_setCell, World.size_drew]; omega) | omega) _).setCell (by first | exact Nat.le_refl _ | (simp only [World.size_alloc, World.size_setCell, World.size_drew]; omega) | omega) _).setCell (by first | exact Nat.le_refl _ | (simp only [World.size_alloc, World.size_setCell, World.size_drew]; omega) | omega) _

def eqL (xs ys : List Int) : Bool := decide (xs = ys)
theorem eqL_self (xs : List Int) : eqL xs xs = true := by simp [eqL]

theorem eqIntS_any (a b : Option Addr) (xs ys : List Int) (ca cb : Nat) (w : World) (hx : Rd w a xs) (hy : Rd w b ys) :
    Calls Try.prog 22 #[.slice a xs.length ca, .slice b ys.length cb] w fun e w' => e = .returned (.bool (eqL xs ys)) ∧ Below w.heap.size w w' := by
  have hlx := hx.len
  have hly := hy.len
  by_cases hl : xs.length = ys.length
  · have hl' : ((xs.length : Int) != (ys.length : Int)) = false := by simp [hl]
    go_enter Try.func22, Try.ntmps22
    have HL := Lib.hid hl
    clear hl
    go_wp2_with fail
    go_loopw [5] (fun i wr => ∃ k : Nat, k ≤ xs.length ∧ i = .int .i64 k ∧ xs.take k = ys.take k ∧ Below w.heap.size w wr) (fun i _ => xs.length - (intOf i).toNat)
    case atStart => exact ⟨0, Nat.zero_le _, rfl, rfl, Below.refl _ _⟩
    case round =>
      obtain ⟨k, hk, rfl, htk, hb⟩ := hrel
      have HT := Lib.hid htk
      clear htk
      by_cases hlt : k < xs.length
      · have hlt' : k < ys.length := by rw [← HL.out]; exact hlt
        obtain ⟨b1, o1, rfl, hb1, hc1⟩ := (hx.below hb).cell k hlt
        obtain ⟨b2, o2, rfl, hb2, hc2⟩ := (hy.below hb).cell k hlt'
        by_cases he : nth xs k = nth ys k
        · have he' : (nth xs k != nth ys k) = false := by simp [he]
          have HE := Lib.hid he
          clear he
          go_wp2_with fail
          go_quiet (fail)
          go_wp2_with fail
          go_roundw
          case rel =>
            refine ⟨k + 1, by omega, by go_num, ?_, by exact hb.trans (Joins.below_draws _ _ _)⟩
            rw [List.take_succ_eq_append_getElem hlt, List.take_succ_eq_append_getElem hlt', HT.out, ← nth_get, ← nth_get, HE.out]
          case measure => simp [intOf]; omega
        · have he' : (nth xs k != nth ys k) = true := by simp [he]
          have hne : eqL xs ys = false := by
            simp only [eqL, decide_eq_false_iff_not]
            intro e
            subst e
            exact he rfl
          have HN := Lib.hid hne
          clear he hne
          go_wp2_with fail
          go_quiet (fail)
          go_wp2_with fail
          go_ret
          exact ⟨ret_bool HN.out.symm, hb.trans (Joins.below_draws _ _ _)⟩
      · go_wp2_with fail
        go_ret
        refine ⟨ret_bool ?_, hb⟩
        have h1 := HT.out
        rw [List.take_of_length_le (by omega), List.take_of_length_le (by rw [← HL.out]; omega)] at h1
        simp [eqL, h1]
  · have hl' : ((xs.length : Int) != (ys.length : Int)) = true := by simp; omega
    have hne : eqL xs ys = false := by
      simp only [eqL, decide_eq_false_iff_not]
      intro e
      exact hl (by rw [e])
    have HN := Lib.hid hne
    clear hl hne
    go_enter Try.func22, Try.ntmps22
    go_wp2_with fail
    go_ret
    exact ⟨ret_bool HN.out.symm, Below.refl _ _⟩

def eqO (n : Int) (xs : List Int) (m : Int) (ys : List Int) : Bool := decide (n = m) && eqL xs ys
theorem eqO_refl (n : Int) (xs : List Int) : eqO n xs n xs = true := by simp [eqO, eqL]

theorem eqOrder_any (n m : Int) (a b : Option Addr) (xs ys : List Int) (ca cb : Nat) (w : World) (hx : Rd w a xs) (hy : Rd w b ys) :
    Calls Try.prog 40 #[.agg #[.int .i64 n, .slice a xs.length ca], .agg #[.int .i64 m, .slice b ys.length cb]] w fun e w' => e = .returned (.bool (eqO n xs m ys)) ∧ Below w.heap.size w w' := by
  by_cases hn : n = m
  · have hn' : (n != m) = false := by simp [hn]
    have HN := Lib.hid hn
    clear hn
    cases he : eqL xs ys
    all_goals
      have HO : Hid (eqO n xs m ys = eqL xs ys) := by simp [Hid, eqO, HN.out]
      have HE := Lib.hid he
      clear he
      go_enter Try.func40, Try.ntmps40
      go_wp2_with fail
      refine (eqIntS_any _ _ xs ys _ _ _ (hx.below (by repeat (first | exact Below.refl _ _ | assumption | refine Below.alloc ?_ (by first | exact Nat.le_refl _ | (simp only [World.size_alloc, World.size_setCell, World.size_drew]; omega) | omega) _ | refine Below.setCell ?_ (by first | exact Nat.le_refl _ | (simp only [World.size_alloc, World.size_setCell, World.size_drew]; omega) | omega) _ | refine Below.drew ?_))) (hy.below (by repeat (first | exact Below.refl _ _ | assumption | refine Below.alloc ?_ (by first | exact Nat.le_refl _ | (simp only [World.size_alloc, World.size_setCell, World.size_drew]; omega) | omega) _ | refine Below.setCell ?_ (by first | exact Nat.le_refl _ | (simp only [World.size_alloc, World.size_setCell, World.size_drew]; omega) | omega) _ | refine Below.drew ?_)))).mono ?_
      rintro e w1 ⟨rfl, hb⟩
      rw [HE.out]
      obtain ⟨hc, hf⟩ := bcell hb
      go_wp2_with fail
      go_ret
      exact ⟨ret_bool (by rw [HO.out, HE.out]), Below.trans (by repeat (first | exact Below.refl _ _ | assumption | refine Below.alloc ?_ (by first | exact Nat.le_refl _ | (simp only [World.size_alloc, World.size_setCell, World.size_drew]; omega) | omega) _ | refine Below.setCell ?_ (by first | exact Nat.le_refl _ | (simp only [World.size_alloc, World.size_setCell, World.size_drew]; omega) | omega) _ | refine Below.drew ?_)) (hb.mono (by first | (simp only [World.size_alloc, World.size_setCell, World.size_drew]; omega) | omega))⟩
  · have hn' : (n != m) = true := by simp [hn]
    have HO : Hid (eqO n xs m ys = false) := by simp [Hid, eqO, hn]
    clear hn
    go_enter Try.func40, Try.ntmps40
    go_wp2_with fail
    go_ret
    exact ⟨ret_bool HO.out.symm, (by repeat (first | exact Below.refl _ _ | assumption | refine Below.alloc ?_ (by first | exact Nat.le_refl _ | (simp only [World.size_alloc, World.size_setCell, World.size_drew]; omega) | omega) _ | refine Below.setCell ?_ (by first | exact Nat.le_refl _ | (simp only [World.size_alloc, World.size_setCell, World.size_drew]; omega) | omega) _ | refine Below.drew ?_))⟩

theorem wrap64_small (n : Int) (h0 : -9223372036854775808 ≤ n) (h1 : n ≤ 9223372036854775807) : IntKind.i64.wrap n = n := by
  simp only [IntKind.wrap, IntKind.bits, IntKind.signed]
  simp
  omega
theorem i64_wrap (n : Int) : IntKind.i64.wrap n = wrap64 n := IntWalk.i64_left n
theorem ofInt_i64 (a : Nat) (ha : a < 9223372036854775808) : (BitVec.ofInt 64 (a : Int)).toNat = a := by
  simp
  omega
theorem and_nat (a b : Nat) (ha : a < 9223372036854775808) (hb : b < 9223372036854775808) : bits .and .i64 (a : Int) (b : Int) = ((a &&& b : Nat) : Int) := by
  have hx : a &&& b < 2 ^ 63 := Nat.and_lt_two_pow _ (by omega)
  show IntKind.i64.wrap ((BitVec.ofInt 64 (a : Int) &&& BitVec.ofInt 64 (b : Int)).toNat : Int) = _
  rw [BitVec.toNat_and, ofInt_i64 a ha, ofInt_i64 b hb, wrap64_small _ (by omega) (by omega)]
theorem or_nat (a b : Nat) (ha : a < 9223372036854775808) (hb : b < 9223372036854775808) : bits .or .i64 (a : Int) (b : Int) = ((a ||| b : Nat) : Int) := by
  have hx : a ||| b < 2 ^ 63 := Nat.or_lt_two_pow (by omega) (by omega)
  show IntKind.i64.wrap ((BitVec.ofInt 64 (a : Int) ||| BitVec.ofInt 64 (b : Int)).toNat : Int) = _
  rw [BitVec.toNat_or, ofInt_i64 a ha, ofInt_i64 b hb, wrap64_small _ (by omega) (by omega)]
/-- a set without the elements of another one -/
def sub (a b : Nat) : Nat := a ^^^ (a &&& b)
theorem testBit_sub (a b i : Nat) : (sub a b).testBit i = (a.testBit i && !b.testBit i) := by
  simp [sub, Nat.testBit_xor, Nat.testBit_and]
  cases a.testBit i <;> cases b.testBit i <;> rfl
theorem sub_lt {a b n : Nat} (h : a < 2 ^ n) : sub a b < 2 ^ n := by
  unfold sub
  exact Nat.xor_lt_two_pow h (by rw [Nat.and_comm]; exact Nat.and_lt_two_pow _ h)
theorem sub_nat (a b : Nat) (ha : a < 9223372036854775808) (hb : b < 9223372036854775808) : bits .andNot .i64 (a : Int) (b : Int) = ((sub a b : Nat) : Int) := by
  have hs : sub a b < 2 ^ 63 := sub_lt (by omega)
  show IntKind.i64.wrap ((BitVec.ofInt 64 (a : Int) &&& ~~~BitVec.ofInt 64 (b : Int)).toNat : Int) = _
  have e : (BitVec.ofInt 64 (a : Int) &&& ~~~BitVec.ofInt 64 (b : Int)).toNat = sub a b := by
    apply Nat.eq_of_testBit_eq
    intro i
    rw [BitVec.testBit_toNat, BitVec.getLsbD_and, BitVec.getLsbD_not, testBit_sub, ← BitVec.testBit_toNat, ← BitVec.testBit_toNat, ofInt_i64 a ha, ofInt_i64 b hb]
    by_cases hi : i < 64
    · simp [hi]
    · have : a.testBit i = false := Nat.testBit_lt_two_pow (Nat.lt_of_lt_of_le (by omega : a < 2 ^ 64) (Nat.pow_le_pow_right (by omega) (by omega)))
      simp [this]
  rw [e, wrap64_small _ (by omega) (by omega)]
theorem shr_nat (s i : Nat) (hs : s < 9223372036854775808) : (s : Int) / (2 ^ min i 64) = ((s >>> i : Nat) : Int) := by
  rw [Nat.shiftRight_eq_div_pow]
  by_cases h : i ≤ 64
  · rw [Nat.min_eq_left h]
    simp
  · rw [Nat.min_eq_right (by omega)]
    have : 2 ^ 64 ≤ 2 ^ i := Nat.pow_le_pow_right (by omega) (by omega)
    rw [Nat.div_eq_of_lt (by omega)]
    omega
theorem bit_and (s i : Nat) (hs : s < 9223372036854775808) : (bits .and .i64 ((s >>> i : Nat) : Int) 1 == 1) = s.testBit i := by
  have h1 : s >>> i ≤ s := by rw [Nat.shiftRight_eq_div_pow]; exact Nat.div_le_self _ _
  have := and_nat (s >>> i) 1 (by omega) (by omega)
  rw [show ((1 : Nat) : Int) = 1 from rfl] at this
  rw [this, Nat.testBit, Nat.and_one_is_mod, Nat.and_comm, Nat.and_one_is_mod]
  rcases Nat.mod_two_eq_zero_or_one (s >>> i) with h | h <;> simp [h]
theorem bit_mod (s i : Nat) : (((s >>> i : Nat) : Int) % 2 == 1) = s.testBit i := by
  rw [Nat.testBit, Nat.and_comm, Nat.and_one_is_mod]
  rcases Nat.mod_two_eq_zero_or_one (s >>> i) with h | h
  · have h2 : ((s >>> i : Nat) : Int) % 2 = 0 := by omega
    rw [h2, h]; rfl
  · have h2 : ((s >>> i : Nat) : Int) % 2 = 1 := by omega
    rw [h2, h]; rfl
theorem bit_tmod (s i : Nat) : (((s >>> i : Nat) : Int).tmod 2 == 1) = s.testBit i := by
  rw [Int.tmod_eq_emod_of_nonneg (Int.natCast_nonneg _), bit_mod]
/-- is i in the set s? -/
def hasB (s i : Int) : Bool := s.toNat.testBit i.toNat
theorem has_and {s i : Int} (h0 : 0 ≤ s) (h1 : s ≤ 9223372036854775807) (hi : 0 ≤ i) : (bits .and .i64 (s / 2 ^ min i.toNat 64) 1 == 1) = hasB s i := by
  obtain ⟨S, rfl⟩ := Int.eq_ofNat_of_zero_le h0
  rw [shr_nat S _ (by omega), bit_and S _ (by omega)]
  rfl
theorem has_mod {s i : Int} (h0 : 0 ≤ s) (h1 : s ≤ 9223372036854775807) (hi : 0 ≤ i) : ((s / 2 ^ min i.toNat 64).tmod 2 == 1) = hasB s i := by
  obtain ⟨S, rfl⟩ := Int.eq_ofNat_of_zero_le h0
  rw [shr_nat S _ (by omega), bit_tmod S]
  rfl
theorem pow_w {k : Nat} (h : k < 62) : wrap64 (2 ^ k) = ((2 ^ k : Nat) : Int) := by
  have : 2 ^ k ≤ 2 ^ 61 := Nat.pow_le_pow_right (by omega) (by omega)
  rw [show ((2:Int) ^ k) = ((2 ^ k : Nat) : Int) by simp]
  generalize hp : 2 ^ k = p at *
  exact IntWalk.wrap64_in _ ⟨by omega, by omega⟩
theorem or_bit {b k : Nat} (hb : b < 4611686018427387904) (hk : k < 62) : bits .or .i64 (b : Int) (wrap64 (2 ^ k)) = ((b ||| 2 ^ k : Nat) : Int) := by
  rw [pow_w hk]
  have : 2 ^ k ≤ 2 ^ 61 := Nat.pow_le_pow_right (by omega) (by omega)
  exact or_nat _ _ (by omega) (by omega)
theorem or_i {a b : Int} (ha : 0 ≤ a) (ha1 : a < 9223372036854775808) (hb : 0 ≤ b) (hb1 : b < 9223372036854775808) : bits .or .i64 a b = ((a.toNat ||| b.toNat : Nat) : Int) := by
  obtain ⟨A, rfl⟩ := Int.eq_ofNat_of_zero_le ha
  obtain ⟨B, rfl⟩ := Int.eq_ofNat_of_zero_le hb
  exact or_nat A B (by omega) (by omega)
theorem sub_i {a b : Int} (ha : 0 ≤ a) (ha1 : a < 9223372036854775808) (hb : 0 ≤ b) (hb1 : b < 9223372036854775808) : bits .andNot .i64 a b = ((sub a.toNat b.toNat : Nat) : Int) := by
  obtain ⟨A, rfl⟩ := Int.eq_ofNat_of_zero_le ha
  obtain ⟨B, rfl⟩ := Int.eq_ofNat_of_zero_le hb
  exact sub_nat A B (by omega) (by omega)
theorem or_lt {a b n : Nat} (ha : a < 2 ^ n) (hb : b < 2 ^ n) : a ||| b < 2 ^ n := Nat.or_lt_two_pow ha hb
theorem two_lt {k n : Nat} (h : k < n) : 2 ^ k < 2 ^ n := Nat.pow_lt_pow_right (by omega) h
theorem testBit_two (k i : Nat) : (2 ^ k).testBit i = decide (k = i) := Nat.testBit_two_pow

/-- the list of f 0, .., f (k - 1) -/
def fmap (f : Nat → Int) (k : Nat) : List Int := (List.range k).map f
theorem fmap_len (f : Nat → Int) (k : Nat) : (fmap f k).length = k := by simp [fmap]
theorem fmap_nth (f : Nat → Int) {k i : Nat} (h : i < k) : nth (fmap f k) i = f i := by simp [nth, fmap, h]
theorem fmap_succ (f : Nat → Int) (k : Nat) : fmap f (k+1) = fmap f k ++ [f k] := by simp [fmap, List.range_succ]
/-- one store more into a row that was made -/
theorem fill_step (f : Nat → Int) (m k : Nat) (h : k < m) :
    ((fmap f k ++ List.replicate (m - k) (0:Int)).map (Value.int .i64)).set k (.int .i64 (f k)) = (fmap f (k+1) ++ List.replicate (m - (k+1)) (0:Int)).map (Value.int .i64) := by
  apply List.ext_getElem?
  intro j
  rw [List.getElem?_set]
  by_cases hj : k = j
  · subst hj
    rw [if_pos rfl, if_pos (by simp [fmap_len]; omega), List.getElem?_map, List.getElem?_append_left (by rw [fmap_len]; omega)]
    simp [fmap]
  · simp only [hj, if_false, List.getElem?_map, List.getElem?_append, fmap_len, List.getElem?_replicate]
    by_cases h1 : j < k
    · have h2 : j < k + 1 := by omega
      simp [h1, h2, fmap]
    · have h2 : ¬ j < k + 1 := by omega
      have h3 : j - k < m - k ↔ j - (k+1) < m - (k+1) := by omega
      simp [h1, h2, h3]
theorem fill_end (f : Nat → Int) (m : Nat) : fmap f m ++ List.replicate (m - m) (0:Int) = fmap f m := by simp
/-- the row that a make of m integers has made -/
theorem made_ints {w1 : World} {B : Nat} {v : Value} {m : Nat} (f : Nat → Int) (h : w1.ownsRow B 3 1 v m (madeCells (Value.int .i64 0).cells (m * 1)).toList) :
    w1.ownsRow B 3 1 v m ((fmap f 0 ++ List.replicate (m - 0) (0:Int)).map (Value.int .i64)) := by
  simpa [Value.cells, toList_madeCells_one, fmap] using h

/-- the set of the numbers below k that a function tells -/
def rowBits (F : Nat → Bool) : Nat → Nat
  | 0 => 0
  | k+1 => if F k then rowBits F k ||| 2 ^ k else rowBits F k
theorem rowBits_lt (F : Nat → Bool) : ∀ k, rowBits F k < 2 ^ k
  | 0 => by simp [rowBits]
  | k+1 => by
    have h := rowBits_lt F k
    have h2 : 2 ^ k < 2 ^ (k+1) := two_lt (by omega)
    simp only [rowBits]
    split
    · exact or_lt (by omega) h2
    · omega
theorem rowBits_small (F : Nat → Bool) {k : Nat} (h : k ≤ 6) : rowBits F k < 64 := by
  have h1 := rowBits_lt F k
  have h2 : 2 ^ k ≤ 2 ^ 6 := Nat.pow_le_pow_right (by omega) h
  omega
theorem rowBits_bit (F : Nat → Bool) (j : Nat) : ∀ k, (rowBits F k).testBit j = (decide (j < k) && F j)
  | 0 => by simp [rowBits]
  | k+1 => by
    have h := rowBits_bit F j k
    simp only [rowBits]
    by_cases hjk : j = k
    · subst hjk
      cases hb : F j
      · simp [h]
      · simp [Nat.testBit_or, testBit_two]
    · have e : decide (j < k + 1) = decide (j < k) := by
        rw [decide_eq_decide]; omega
      rw [e, ← h]
      have hkj : ¬ k = j := fun e => hjk e.symm
      cases hb : F k <;> simp [Nat.testBit_or, testBit_two, hkj]
theorem rowBits_congr {F G : Nat → Bool} {k : Nat} (h : ∀ j, j < k → F j = G j) : rowBits F k = rowBits G k := by
  apply Nat.eq_of_testBit_eq
  intro j
  rw [rowBits_bit, rowBits_bit]
  by_cases hj : j < k
  · simp [hj, h j hj]
  · simp [hj]
/-- a set that has only these bits is made of them -/
theorem rowBits_self {s k : Nat} (h : s < 2 ^ k) : rowBits (fun j => s.testBit j) k = s := by
  apply Nat.eq_of_testBit_eq
  intro j
  rw [rowBits_bit]
  by_cases hj : j < k
  · simp [hj]
  · have : s.testBit j = false := Nat.testBit_lt_two_pow (Nat.lt_of_lt_of_le h (Nat.pow_le_pow_right (by omega) (by omega)))
    simp [hj, this]
/-- the rows of a table that is told cell by cell -/
def tbL (F : Nat → Nat → Bool) (R C : Nat) : List Int := fmap (fun r => ((rowBits (F r) C : Nat) : Int)) R
/-- the same after k cells -/
def tbAt (F : Nat → Nat → Bool) (R C k : Nat) : List Int := fmap (fun i => ((rowBits (F i) (min C (k - i * C)) : Nat) : Int)) R
theorem tbL_len (F : Nat → Nat → Bool) (R C : Nat) : (tbL F R C).length = R := fmap_len _ _
theorem tbAt_len (F : Nat → Nat → Bool) (R C k : Nat) : (tbAt F R C k).length = R := fmap_len _ _
theorem tbAt_zero (F : Nat → Nat → Bool) (R C : Nat) : tbAt F R C 0 = List.replicate R 0 := by
  apply List.ext_getElem?
  intro j
  simp only [tbAt, fmap, List.getElem?_map, List.getElem?_replicate]
  by_cases h : j < R
  · simp [h, rowBits]
  · simp [h]
theorem tbAt_end (F : Nat → Nat → Bool) (R C : Nat) : tbAt F R C (R * C) = tbL F R C := by
  apply List.ext_getElem?
  intro j
  simp only [tbAt, tbL, fmap, List.getElem?_map]
  by_cases h : j < R
  · have h1 : C ≤ R * C - j * C := by
      rw [← Nat.sub_mul]
      exact Nat.le_mul_of_pos_left C (by omega)
    simp [h, Nat.min_eq_left h1]
  · simp [h]
theorem cell_rc {C r c : Nat} (hc : c < C) : (r * C + c) / C = r ∧ (r * C + c) % C = c := by
  have h0 : 0 < C := by omega
  constructor
  · rw [Nat.mul_comm, Nat.mul_add_div h0, Nat.div_eq_of_lt hc]; rfl
  · rw [Nat.mul_comm, Nat.mul_add_mod, Nat.mod_eq_of_lt hc]
theorem cell_eq {C k : Nat} (h : 0 < C) : k = (k / C) * C + k % C := by
  have := Nat.div_add_mod k C
  rw [Nat.mul_comm] at this
  exact this.symm
theorem tbAt_nth (F : Nat → Nat → Bool) {R C r c : Nat} (hr : r < R) (hc : c < C) : nth (tbAt F R C (r * C + c)) r = ((rowBits (F r) c : Nat) : Int) := by
  rw [show nth (tbAt F R C (r * C + c)) r = _ from fmap_nth _ hr, Nat.add_sub_cancel_left, Nat.min_eq_right (by omega)]
theorem tbAt_step (F : Nat → Nat → Bool) {R C r c : Nat} (hr : r < R) (hc : c < C) : (tbAt F R C (r * C + c)).set r ((rowBits (F r) (c+1) : Nat) : Int) = tbAt F R C (r * C + c + 1) := by
  apply List.ext_getElem?
  intro j
  rw [List.getElem?_set, tbAt_len]
  by_cases hj : r = j
  · subst hj
    simp only [if_true, hr, tbAt, fmap, List.getElem?_map, List.getElem?_range hr, Option.map_some]
    rw [show r * C + c + 1 - r * C = c + 1 from by omega, Nat.min_eq_right (by omega)]
  · simp only [hj, if_false, tbAt, fmap, List.getElem?_map]
    by_cases h : j < R
    · have e : min C (r * C + c - j * C) = min C (r * C + c + 1 - j * C) := by
        rcases Nat.lt_or_gt_of_ne hj with h1 | h1
        · have : (r + 1) * C ≤ j * C := Nat.mul_le_mul_right C h1
          rw [Nat.add_mul] at this
          omega
        · have : (j + 1) * C ≤ r * C := Nat.mul_le_mul_right C h1
          rw [Nat.add_mul] at this
          omega
      simp [h, e]
    · simp [h]
theorem tbAt_skip (F : Nat → Nat → Bool) {R C r c : Nat} (hr : r < R) (hc : c < C) (hF : F r c = false) : tbAt F R C (r * C + c + 1) = tbAt F R C (r * C + c) := by
  rw [← tbAt_step F hr hc, rowBits, hF, if_neg (by simp), ← tbAt_nth F hr hc]
  apply List.ext_getElem?
  intro j
  rw [List.getElem?_set, tbAt_len]
  by_cases hj : r = j
  · subst hj
    simp [hr, nth, tbAt_len]
  · simp [hj]

/-- a block that begins with these three cells -/
def Box3 (w : World) (b : Nat) (u v x : Value) : Prop := b < w.heap.size ∧ w.cell? ⟨b, 0, none⟩ = some u ∧ w.cell? ⟨b, 1, none⟩ = some v ∧ w.cell? ⟨b, 2, none⟩ = some x
theorem Box3.below {w w' : World} {b : Nat} {u v x : Value} (h : Box3 w b u v x) (hb : Below w.heap.size w w') : Box3 w' b u v x :=
  ⟨Nat.lt_of_lt_of_le h.1 hb.size, (hb.cell (p := ⟨b, 0, none⟩) h.1).trans h.2.1, (hb.cell (p := ⟨b, 1, none⟩) h.1).trans h.2.2.1, (hb.cell (p := ⟨b, 2, none⟩) h.1).trans h.2.2.2⟩
theorem Box3.new (w : World) (u v x : Value) (t : TypeId) : Box3 (w.alloc (.cells #[u, v, x] t)) w.heap.size u v x := ⟨by simp, by simp, by simp, by simp⟩
theorem Box3.kept {w w' : World} {b : Nat} {u v x : Value} {row : Option Nat} (h : Box3 w b u v x) (hg : w.grownBy w' row) (hne : some b ≠ row) : Box3 w' b u v x :=
  ⟨Nat.lt_of_lt_of_le h.1 hg.size, hg.cell h.2.1 hne, hg.cell h.2.2.1 hne, hg.cell h.2.2.2 hne⟩
theorem Box3.alloc {w : World} {b : Nat} {u v x : Value} (h : Box3 w b u v x) (o : Obj) : Box3 (w.alloc o) b u v x := h.below ((Below.refl _ _).alloc (Nat.le_refl _) o)
theorem Box3.set {w : World} {b : Nat} {u v x : Value} (h : Box3 w b u v x) {p : Addr} (y : Value) (hne : b ≠ p.block) : Box3 (w.setCell p y) b u v x :=
  h.kept (grown_set w p y) (by simpa using hne)
/-- three cells that may be written -/
def Var3 (w : World) (b : Nat) (u v x : Value) : Prop := Box3 w b u v x ∧ w.frozen? ⟨b, 0, none⟩ = false ∧ w.frozen? ⟨b, 1, none⟩ = false ∧ w.frozen? ⟨b, 2, none⟩ = false
theorem Var3.new (w : World) (u v x : Value) (t : TypeId) : Var3 (w.alloc (.cells #[u, v, x] t)) w.heap.size u v x := ⟨Box3.new w u v x t, by simp, by simp, by simp⟩
theorem Var3.below {w w' : World} {b : Nat} {u v x : Value} (h : Var3 w b u v x) (hb : Below w.heap.size w w') : Var3 w' b u v x :=
  ⟨h.1.below hb, (hb.frozen (p := ⟨b, 0, none⟩) h.1.1).trans h.2.1, (hb.frozen (p := ⟨b, 1, none⟩) h.1.1).trans h.2.2.1, (hb.frozen (p := ⟨b, 2, none⟩) h.1.1).trans h.2.2.2⟩
theorem Var3.alloc {w : World} {b : Nat} {u v x : Value} (h : Var3 w b u v x) (o : Obj) : Var3 (w.alloc o) b u v x := h.below ((Below.refl _ _).alloc (Nat.le_refl _) o)
theorem Var3.kept {w w' : World} {b : Nat} {u v x : Value} {row : Option Nat} (h : Var3 w b u v x) (hg : w.grownBy w' row) (hne : some b ≠ row) : Var3 w' b u v x :=
  ⟨h.1.kept hg hne, (World.frozen?_of_block (w := w) (a := ⟨b, 0, none⟩) (hg.block b h.1.1 hne)).trans h.2.1, (World.frozen?_of_block (w := w) (a := ⟨b, 1, none⟩) (hg.block b h.1.1 hne)).trans h.2.2.1, (World.frozen?_of_block (w := w) (a := ⟨b, 2, none⟩) (hg.block b h.1.1 hne)).trans h.2.2.2⟩
theorem Var3.other {w : World} {b : Nat} {u v x : Value} (h : Var3 w b u v x) {p : Addr} (y : Value) (hne : b ≠ p.block) : Var3 (w.setCell p y) b u v x :=
  h.kept (grown_set w p y) (by simpa using hne)
theorem Var3.set0 {w : World} {b : Nat} {u v x : Value} (h : Var3 w b u v x) (y : Value) : Var3 (w.setCell ⟨b, 0, none⟩ y) b y v x :=
  ⟨⟨by simpa using h.1.1, World.cell?_setCell_same _ _ _ h.1.2.1, by rw [World.cell?_setCell_other _ _ _ _ (by simp)]; exact h.1.2.2.1, by rw [World.cell?_setCell_other _ _ _ _ (by simp)]; exact h.1.2.2.2⟩, by simpa using h.2.1, by simpa using h.2.2.1, by simpa using h.2.2.2⟩
theorem Var3.set1 {w : World} {b : Nat} {u v x : Value} (h : Var3 w b u v x) (y : Value) : Var3 (w.setCell ⟨b, 1, none⟩ y) b u y x :=
  ⟨⟨by simpa using h.1.1, by rw [World.cell?_setCell_other _ _ _ _ (by simp)]; exact h.1.2.1, World.cell?_setCell_same _ _ _ h.1.2.2.1, by rw [World.cell?_setCell_other _ _ _ _ (by simp)]; exact h.1.2.2.2⟩, by simpa using h.2.1, by simpa using h.2.2.1, by simpa using h.2.2.2⟩
theorem Var3.set2 {w : World} {b : Nat} {u v x : Value} (h : Var3 w b u v x) (y : Value) : Var3 (w.setCell ⟨b, 2, none⟩ y) b u v y :=
  ⟨⟨by simpa using h.1.1, by rw [World.cell?_setCell_other _ _ _ _ (by simp)]; exact h.1.2.1, by rw [World.cell?_setCell_other _ _ _ _ (by simp)]; exact h.1.2.2.1, World.cell?_setCell_same _ _ _ h.1.2.2.2⟩, by simpa using h.2.1, by simpa using h.2.2.1, by simpa using h.2.2.2⟩
theorem Var3.set {w : World} {b : Nat} {u v x : Value} (h : Var3 w b u v x) (u' v' x' : Value) : Var3 (((w.setCell ⟨b, 0, none⟩ u').setCell ⟨b, 1, none⟩ v').setCell ⟨b, 2, none⟩ x') b u' v' x' := ((h.set0 u').set1 v').set2 x'

/-- what a call hands back that makes a table -/
def GotT (w : World) (n m : Int) (ys : List Int) (ok : Bool) (e : Ending) (w' : World) : Prop :=
  ∃ a cap, e = .returned (.tuple #[.agg #[.int .i64 n, .int .i64 m, .slice a ys.length cap], .bool ok]) ∧ OwnI w' w.heap.size (.slice a ys.length cap) ys ∧ Below w.heap.size w w'
theorem gotT_no {w : World} : GotT w 0 0 [] false (.returned (.tuple #[.agg #[.int .i64 0, .int .i64 0, .slice none 0 0], .bool false])) w := ⟨none, 0, rfl, OwnI.nil _ _, Below.refl _ _⟩

def inB (n lo hi : Int) : Bool := decide (lo ≤ n) && decide (n ≤ hi)
theorem inB_iff {n lo hi : Int} : inB n lo hi = true ↔ lo ≤ n ∧ n ≤ hi := by simp [inB]
theorem inB_no {n lo hi : Int} : inB n lo hi = false ↔ n < lo ∨ hi < n := by
  rw [← Bool.not_eq_true, inB_iff]
  omega

def allB (xs : List Int) (lo hi : Int) : Bool := xs.all (fun x => inB x lo hi)
theorem allB_take (xs : List Int) (lo hi : Int) (k : Nat) (h : k < xs.length) : allB (xs.take (k+1)) lo hi = (allB (xs.take k) lo hi && inB (nth xs k) lo hi) := by
  simp only [allB]
  rw [List.take_succ_eq_append_getElem h, List.all_append]
  simp [nth, h]
theorem allB_false {xs : List Int} {lo hi : Int} {k : Nat} (h : k < xs.length) (h1 : inB (nth xs k) lo hi = false) : allB xs lo hi = false := by
  simp only [allB, List.all_eq_false]
  exact ⟨xs[k], List.getElem_mem h, by simpa [nth, h] using h1⟩
theorem allB_nth {xs : List Int} {lo hi : Int} (h : allB xs lo hi = true) {k : Nat} (hk : k < xs.length) : lo ≤ nth xs k ∧ nth xs k ≤ hi := by
  simp only [allB, List.all_eq_true] at h
  have := inB_iff.1 (h _ (List.getElem_mem hk))
  rwa [← nth_get xs k hk] at this

/-- is it a relation? -/
def relB (n : Int) (xs : List Int) : Bool := inB n 0 10 && decide ((xs.length : Int) = n) && allB xs 0 (2 ^ n.toNat - 1)
theorem relB_iff {n : Int} {xs : List Int} : relB n xs = true ↔ (0 ≤ n ∧ n ≤ 10) ∧ (xs.length : Int) = n ∧ allB xs 0 (2 ^ n.toNat - 1) = true := by
  simp [relB, inB_iff, and_assoc]
theorem pow10 {n : Nat} (h : n ≤ 10) : (1 : Int) ≤ 2 ^ n ∧ (2 : Int) ^ n ≤ 1024 := by
  have h1 : 2 ^ n ≤ 2 ^ 10 := Nat.pow_le_pow_right (by omega) h
  have h2 : 1 ≤ 2 ^ n := Nat.one_le_two_pow
  have h3 : ((2 ^ n : Nat) : Int) = (2 : Int) ^ n := by simp
  omega
theorem full_eq {n : Int} (h0 : 0 ≤ n) (h1 : n ≤ 10) : wrap64 (wrap64 (2 ^ n.toNat) - 1) = 2 ^ n.toNat - 1 := by
  have h2 := pow10 (n := n.toNat) (by omega)
  generalize (2 : Int) ^ n.toNat = p at *
  rw [IntWalk.wrap64_in p ⟨by omega, by omega⟩, IntWalk.wrap64_in _ ⟨by omega, by omega⟩]
structure RelP (n : Int) (xs : List Int) : Prop where
  n0 : 0 ≤ n
  n1 : n ≤ 10
  len : (xs.length : Int) = n
  pos : ∀ k, k < xs.length → 0 ≤ nth xs k
  lt : ∀ k, k < xs.length → nth xs k < 2 ^ xs.length
  small : ∀ k, k < xs.length → nth xs k < 1024
theorem relB_p {n : Int} {xs : List Int} (h : relB n xs = true) : RelP n xs := by
  obtain ⟨⟨h0, h1⟩, h2, h3⟩ := relB_iff.1 h
  have e : n.toNat = xs.length := by omega
  rw [e] at h3
  have hp := pow10 (n := xs.length) (by omega)
  exact ⟨h0, h1, h2, fun k hk => (allB_nth h3 hk).1, fun k hk => by have := (allB_nth h3 hk).2; omega, fun k hk => by have := (allB_nth h3 hk).2; omega⟩

def elemB (i n : Int) : Bool := decide (0 ≤ i) && decide (i < n)
theorem elemB_iff {i n : Int} : elemB i n = true ↔ 0 ≤ i ∧ i < n := by simp [elemB]
theorem elemB_no {i n : Int} : elemB i n = false ↔ i < 0 ∨ n ≤ i := by
  rw [← Bool.not_eq_true, elemB_iff]; omega

/-- the elements of a set that are less than k, in order -/
def elemsTo (s : Nat) : Nat → List Int
  | 0 => []
  | k+1 => if s.testBit k then elemsTo s k ++ [(k : Int)] else elemsTo s k
theorem elemsTo_len (s : Nat) : ∀ k, (elemsTo s k).length ≤ k
  | 0 => by simp [elemsTo]
  | k+1 => by
    have := elemsTo_len s k
    simp only [elemsTo]
    split <;> simp <;> omega
theorem mem_elemsTo (s : Nat) (x : Int) : ∀ k, x ∈ elemsTo s k ↔ ∃ i : Nat, i < k ∧ s.testBit i = true ∧ x = i
  | 0 => by simp [elemsTo]
  | k+1 => by
    have ih := mem_elemsTo s x k
    simp only [elemsTo]
    cases hb : s.testBit k
    · rw [if_neg (by simp), ih]
      constructor
      · rintro ⟨i, h1, h2, h3⟩
        exact ⟨i, by omega, h2, h3⟩
      · rintro ⟨i, h1, h2, h3⟩
        have : i ≠ k := fun e => by rw [e, hb] at h2; cases h2
        exact ⟨i, by omega, h2, h3⟩
    · rw [if_pos rfl, List.mem_append, ih]
      constructor
      · rintro (⟨i, h1, h2, h3⟩ | h)
        · exact ⟨i, by omega, h2, h3⟩
        · exact ⟨k, by omega, hb, by simpa using h⟩
      · rintro ⟨i, h1, h2, h3⟩
        by_cases e : i = k
        · exact .inr (by simp [h3, e])
        · exact .inl ⟨i, by omega, h2, h3⟩
theorem elemsTo_more (s k : Nat) (h : s >>> k = 0) : ∀ m, elemsTo s (k + m) = elemsTo s k
  | 0 => rfl
  | m+1 => by
    have hb : s.testBit (k + m) = false := by
      rw [Nat.testBit]
      have : s >>> (k + m) = 0 := by rw [Nat.shiftRight_add, h]; simp
      simp [this]
    show elemsTo s (k + m + 1) = _
    simp only [elemsTo, hb]
    exact elemsTo_more s k h m
/-- all elements of a set below 1024 -/
def elems (s : Nat) : List Int := elemsTo s 10
theorem elems_at {s k : Nat} (h : s >>> k = 0) (hk : k ≤ 10) : elemsTo s k = elems s := by
  have := elemsTo_more s k h (10 - k)
  rw [show k + (10 - k) = 10 from by omega] at this
  exact this.symm
theorem elems_len (s : Nat) : (elems s).length ≤ 10 := elemsTo_len s 10
theorem mem_elems {s : Nat} (hs : s < 1024) {x : Int} : x ∈ elems s ↔ ∃ i : Nat, s.testBit i = true ∧ x = i := by
  rw [elems, mem_elemsTo]
  constructor
  · rintro ⟨i, _, h2, h3⟩
    exact ⟨i, h2, h3⟩
  · rintro ⟨i, h2, h3⟩
    refine ⟨i, ?_, h2, h3⟩
    rcases Nat.lt_or_ge i 10 with h | h
    · exact h
    · have : s < 2 ^ i := Nat.lt_of_lt_of_le hs (Nat.pow_le_pow_right (by omega : 0 < 2) h)
      rw [Nat.testBit_lt_two_pow this] at h2
      cases h2
theorem nth_mem {xs : List Int} {k : Nat} (h : k < xs.length) : nth xs k ∈ xs := by
  rw [nth_get xs k h]; exact List.getElem_mem h
theorem mem_nth {xs : List Int} {x : Int} (h : x ∈ xs) : ∃ k, k < xs.length ∧ nth xs k = x := by
  obtain ⟨k, hk, e⟩ := List.getElem_of_mem h
  exact ⟨k, hk, by rw [nth_get xs k hk, e]⟩

/-- the set of the indices below k of the lists that have i -/
def belowTo (xs : List Int) (i : Int) : Nat → Nat
  | 0 => 0
  | k+1 => if hasB (nth xs k) i then belowTo xs i k ||| 2 ^ k else belowTo xs i k
theorem belowTo_lt (xs : List Int) (i : Int) : ∀ k, belowTo xs i k < 2 ^ k
  | 0 => by simp [belowTo]
  | k+1 => by
    have h := belowTo_lt xs i k
    have h2 : 2 ^ k < 2 ^ (k+1) := two_lt (by omega)
    simp only [belowTo]
    split
    · exact or_lt (by omega) h2
    · omega
theorem belowTo_small (xs : List Int) (i : Int) {k : Nat} (h : k ≤ 10) : belowTo xs i k < 1024 := by
  have h1 := belowTo_lt xs i k
  have h2 : 2 ^ k ≤ 2 ^ 10 := Nat.pow_le_pow_right (by omega) h
  omega
theorem belowTo_bit (xs : List Int) (i : Int) (j : Nat) : ∀ k, (belowTo xs i k).testBit j = (decide (j < k) && hasB (nth xs j) i)
  | 0 => by simp [belowTo]
  | k+1 => by
    have h := belowTo_bit xs i j k
    simp only [belowTo]
    by_cases hjk : j = k
    · subst hjk
      cases hb : hasB (nth xs j) i
      · simp [h]
      · simp [Nat.testBit_or, testBit_two]
    · have e : decide (j < k + 1) = decide (j < k) := by
        rw [decide_eq_decide]; omega
      rw [e, ← h]
      have hkj : ¬ k = j := fun e => hjk e.symm
      cases hb : hasB (nth xs k) i <;> simp [Nat.testBit_or, testBit_two, hkj]

def okAtB (xs : List Int) (k : Nat) : Bool := !hasB (nth xs k) k && (List.range xs.length).all (fun j => !hasB (nth xs k) j || sub (nth xs j).toNat (nth xs k).toNat == 0)
/-- is it an order? -/
def ordB (n : Int) (xs : List Int) : Bool := relB n xs && (List.range xs.length).all (okAtB xs)
theorem okAtB_iff {xs : List Int} {k : Nat} : okAtB xs k = true ↔ hasB (nth xs k) k = false ∧ ∀ j, j < xs.length → hasB (nth xs k) j = true → sub (nth xs j).toNat (nth xs k).toNat = 0 := by
  simp only [okAtB, Bool.and_eq_true, Bool.not_eq_true', List.all_eq_true, List.mem_range, Bool.or_eq_true, beq_iff_eq]
  constructor
  · rintro ⟨h1, h2⟩
    exact ⟨h1, fun j hj hb => (h2 j hj).resolve_left (by simp [hb])⟩
  · rintro ⟨h1, h2⟩
    refine ⟨h1, fun j hj => ?_⟩
    cases hb : hasB (nth xs k) j
    · exact .inl rfl
    · exact .inr (h2 j hj hb)
theorem ordB_iff {n : Int} {xs : List Int} : ordB n xs = true ↔ relB n xs = true ∧ ∀ k, k < xs.length → okAtB xs k = true := by
  simp [ordB]
theorem ordB_no {n : Int} {xs : List Int} {k : Nat} (hk : k < xs.length) (h : okAtB xs k = false) : ordB n xs = false := by
  rw [← Bool.not_eq_true, ordB_iff]
  rintro ⟨_, h2⟩
  rw [h2 k hk] at h
  cases h
theorem okAtB_has {xs : List Int} {k : Nat} (h : hasB (nth xs k) k = true) : okAtB xs k = false := by
  simp [okAtB, h]
theorem okAtB_sub {xs : List Int} {k j : Nat} (hj : j < xs.length) (h : hasB (nth xs k) j = true) (h2 : sub (nth xs j).toNat (nth xs k).toNat ≠ 0) : okAtB xs k = false := by
  rw [← Bool.not_eq_true, okAtB_iff]
  rintro ⟨_, h3⟩
  exact h2 (h3 j hj h)
theorem sub_zero {a b : Nat} : sub a b = 0 ↔ ∀ i, a.testBit i = true → b.testBit i = true := by
  constructor
  · intro h i hi
    have := testBit_sub a b i
    rw [h, hi] at this
    simpa using this.symm
  · intro h
    apply Nat.eq_of_testBit_eq
    intro i
    rw [testBit_sub]
    cases ha : a.testBit i
    · simp
    · simp [h i ha]
theorem has_lt {n : Int} {xs : List Int} (hp : RelP n xs) {k : Nat} (hk : k < xs.length) {j : Nat} (h : hasB (nth xs k) j = true) : j < xs.length := by
  rcases Nat.lt_or_ge j xs.length with h' | h'
  · exact h'
  · have h1 := hp.lt k hk
    have h0 := hp.pos k hk
    have h2 : (nth xs k).toNat < 2 ^ j := by
      have : (2 : Nat) ^ xs.length ≤ 2 ^ j := Nat.pow_le_pow_right (by omega) h'
      have e : ((2 ^ xs.length : Nat) : Int) = (2 : Int) ^ xs.length := by simp
      omega
    simp only [hasB] at h
    rw [Int.toNat_natCast, Nat.testBit_lt_two_pow h2] at h
    cases h

/-- the set of all elements above one of those of a set that are less than k -/
def aboveTo (xs : List Int) (s : Int) : Nat → Nat
  | 0 => 0
  | k+1 => if hasB s k then aboveTo xs s k ||| (nth xs k).toNat else aboveTo xs s k
theorem aboveTo_lt {n : Int} {xs : List Int} (hp : RelP n xs) (s : Int) : ∀ k, k ≤ xs.length → aboveTo xs s k < 2 ^ 10
  | 0, _ => by simp [aboveTo]
  | k+1, hk => by
    have h := aboveTo_lt hp s k (by omega)
    have h1 := hp.small k (by omega)
    have h0 := hp.pos k (by omega)
    simp only [aboveTo]
    split
    · exact or_lt h (by omega)
    · exact h
theorem aboveTo_bit (xs : List Int) (s : Int) (j : Nat) : ∀ k, (aboveTo xs s k).testBit j = true ↔ ∃ i, i < k ∧ hasB s i = true ∧ (nth xs i).toNat.testBit j = true
  | 0 => by simp [aboveTo]
  | k+1 => by
    have ih := aboveTo_bit xs s j k
    simp only [aboveTo]
    cases hb : hasB s k
    · rw [if_neg (by simp), ih]
      constructor
      · rintro ⟨i, h1, h2, h3⟩
        exact ⟨i, by omega, h2, h3⟩
      · rintro ⟨i, h1, h2, h3⟩
        have : i ≠ k := fun e => by rw [e, hb] at h2; cases h2
        exact ⟨i, by omega, h2, h3⟩
    · rw [if_pos rfl, Nat.testBit_or, Bool.or_eq_true, ih]
      constructor
      · rintro (⟨i, h1, h2, h3⟩ | h)
        · exact ⟨i, by omega, h2, h3⟩
        · exact ⟨k, by omega, hb, h⟩
      · rintro ⟨i, h1, h2, h3⟩
        by_cases e : i = k
        · subst e; exact .inr h3
        · exact .inl ⟨i, by omega, h2, h3⟩
theorem okAtB_above {xs : List Int} {k : Nat} (h : hasB (nth xs k) k = false) : okAtB xs k = (sub (aboveTo xs (nth xs k) xs.length) (nth xs k).toNat == 0) := by
  rw [Bool.eq_iff_iff, okAtB_iff, beq_iff_eq, sub_zero]
  constructor
  · rintro ⟨_, h2⟩ i hi
    obtain ⟨j, hj, hb, ht⟩ := (aboveTo_bit _ _ _ _).1 hi
    exact sub_zero.1 (h2 j hj hb) i ht
  · intro h2
    refine ⟨h, fun j hj hb => sub_zero.2 (fun i hi => h2 i ((aboveTo_bit _ _ _ _).2 ⟨j, hj, hb, hi⟩))⟩

/-- is the number at k an element, and greater than the one before it? -/
def okI (n : Int) (es : List Int) (k : Nat) : Bool := elemB (nth es k) n && (k == 0 || decide (nth es (k-1) < nth es k))
def incB (n : Int) (es : List Int) : Bool := (List.range es.length).all (okI n es)
theorem incB_iff {n : Int} {es : List Int} : incB n es = true ↔ ∀ k, k < es.length → okI n es k = true := by simp [incB]
theorem incB_no {n : Int} {es : List Int} {k : Nat} (hk : k < es.length) (h : okI n es k = false) : incB n es = false := by
  rw [← Bool.not_eq_true, incB_iff]
  intro h2
  rw [h2 k hk] at h
  cases h
theorem okI_elem {n : Int} {es : List Int} {k : Nat} (h : okI n es k = true) : 0 ≤ nth es k ∧ nth es k < n := by
  simp only [okI, Bool.and_eq_true] at h
  exact elemB_iff.1 h.1
theorem inc_ge {n : Int} {es : List Int} (h : ∀ k, k < es.length → okI n es k = true) : ∀ k, k < es.length → (k : Int) ≤ nth es k
  | 0, hk => by have := (okI_elem (h 0 hk)).1; simpa using this
  | k+1, hk => by
    have ih := inc_ge h k (by omega)
    have := h (k+1) hk
    simp only [okI, Bool.and_eq_true, Bool.or_eq_true, beq_iff_eq, decide_eq_true_eq] at this
    rcases this.2 with h0 | h0
    · omega
    · simp only [Nat.add_sub_cancel] at h0
      push_cast
      omega
theorem inc_len {n : Int} {es : List Int} (h : incB n es = true) (hn : 0 ≤ n) : (es.length : Int) ≤ n := by
  rw [incB_iff] at h
  rcases Nat.eq_zero_or_pos es.length with h0 | h0
  · omega
  · have h1 := inc_ge h (es.length - 1) (by omega)
    have h2 := (okI_elem (h (es.length - 1) (by omega))).2
    omega

theorem ord_rel {n : Int} {xs : List Int} (h : ordB n xs = true) : RelP n xs := relB_p (ordB_iff.1 h).1

def okTO (n : Int) (xs ra ca : List Int) : Bool := ordB n xs && ((inB (ra.length : Int) 1 6 && inB (ca.length : Int) 1 6) && (incB n ra && incB n ca))
def toF (xs ra ca : List Int) (r c : Nat) : Bool := hasB (nth xs (nth ra r).toNat) (nth ca c)
def toR (n : Int) (xs ra ca : List Int) : Int := if okTO n xs ra ca then (ra.length : Int) else 0
def toC (n : Int) (xs ra ca : List Int) : Int := if okTO n xs ra ca then (ca.length : Int) else 0
def toL (n : Int) (xs ra ca : List Int) : List Int := if okTO n xs ra ca then tbL (toF xs ra ca) ra.length ca.length else []
structure TabO2 (n : Int) (xs ra ca : List Int) : Prop where
  ord : ordB n xs = true
  r0 : 1 ≤ ra.length
  r1 : ra.length ≤ 6
  c0 : 1 ≤ ca.length
  c1 : ca.length ≤ 6
  ri : ∀ k, k < ra.length → 0 ≤ nth ra k ∧ nth ra k < n
  ci : ∀ k, k < ca.length → 0 ≤ nth ca k ∧ nth ca k < n
theorem okTO_p {n : Int} {xs ra ca : List Int} (h : okTO n xs ra ca = true) : TabO2 n xs ra ca := by
  simp only [okTO, Bool.and_eq_true, inB_iff] at h
  obtain ⟨h0, ⟨⟨h1, h2⟩, h3, h4⟩, h5, h6⟩ := h
  rw [incB_iff] at h5 h6
  exact ⟨h0, by omega, by omega, by omega, by omega, fun k hk => okI_elem (h5 k hk), fun k hk => okI_elem (h6 k hk)⟩
theorem toL_len (n : Int) (xs ra ca : List Int) : (toL n xs ra ca).length ≤ 1048576 := by
  unfold toL
  split
  · rename_i h
    have := (okTO_p h).r1
    rw [tbL_len]; omega
  · simp

theorem orHas_any (s i : Int) (w : World) (h0 : 0 ≤ s) (h1 : s ≤ 9223372036854775807) (hi : 0 ≤ i) :
    Calls Try.prog 57 #[.int .i64 s, .int .i64 i] w fun e w' => e = .returned (.bool (hasB s i)) ∧ w = w' := by
  have H := Lib.hid (has_mod h0 h1 hi)
  go_enter Try.func57, Try.ntmps57
  go_wp2
  go_ret
  exact ⟨ret_bool H.out, rfl⟩

theorem orList_any (s : Int) (w : World) (h0 : 0 ≤ s) (h1 : s < 1024) :
    Calls Try.prog 56 #[.int .i64 s] w fun e w' => ∃ a cap, e = .returned (.slice a (elems s.toNat).length cap) ∧ OwnI w' w.heap.size (.slice a (elems s.toNat).length cap) (elems s.toNat) ∧ Below w.heap.size w w' := by
  obtain ⟨S, rfl⟩ := Int.eq_ofNat_of_zero_le h0
  have hS : S < 1024 := by omega
  obtain ⟨i0, hi, hz0, hz1, hz2⟩ := info_parts infoInt
  have hsh : ∀ k : Nat, (S : Int) / 2 ^ min k 64 = ((S >>> k : Nat) : Int) := fun k => shr_nat S k (by omega)
  have HSH := Lib.hid hsh
  clear hsh
  go_enter Try.func56, Try.ntmps56
  go_wp2_with fail
  go_loopw [3, 4] (fun v i wr => ∃ k : Nat, k ≤ 10 ∧ i = .int .i64 k ∧ wr.ownsRow w.heap.size 3 1 v (elemsTo S k).length ((elemsTo S k).map (Value.int .i64)) ∧ Below w.heap.size w wr) (fun _ i _ => 10 - (intOf i).toNat)
  case atStart => exact ⟨0, by omega, rfl, by simpa [elemsTo] using World.ownsRow_nil _ _ _ _, Below.refl _ _⟩
  case round =>
    obtain ⟨k, hk, rfl, hown, hb⟩ := hrel
    have hln := elemsTo_len S k
    have hsz := hb.size
    have hq := HSH.out k
    rw [show min k 64 = k from by omega] at hq
    by_cases hz : S >>> k = 0
    · have ht : ¬ (0 : Int) < (S : Int) / 2 ^ k := by rw [hq, hz]; omega
      have HZ := Lib.hid hz
      clear hq hz
      go_wp2_with fail
      go_ret
      have e := elems_at HZ.out hk
      rw [e] at hown
      obtain ⟨a, cap, rfl⟩ := OwnI.form hown
      exact ⟨a, cap, rfl, hown, hb⟩
    · have ht : (0 : Int) < (S : Int) / 2 ^ k := by rw [hq]; exact Int.natCast_pos.2 (Nat.pos_of_ne_zero hz)
      have hk9 : k < 10 := by
        rcases Nat.lt_or_ge k 10 with h | h
        · exact h
        · obtain rfl : k = 10 := by omega
          exact absurd (by rw [Nat.shiftRight_eq_div_pow]; exact Nat.div_eq_of_lt (by omega)) hz
      clear hq hz
      have hhas : hasB (S : Int) (k : Int) = S.testBit k := rfl
      cases hin : S.testBit k
      · rw [hin] at hhas
        go_wp2_with (go_at_call 57; refine (orHas_any _ _ _ (by omega) (by omega) (by omega)).mono ?_; rintro e w' ⟨rfl, rfl⟩)
        go_roundw
        case rel => exact ⟨k + 1, by omega, by go_num, by simpa [elemsTo, hin] using hown, hb⟩
        case measure => simp [intOf]; omega
      · rw [hin] at hhas
        go_wp2_with (first | (go_at_call 57; refine (orHas_any _ _ _ (by omega) (by omega) (by omega)).mono ?_; rintro e w' ⟨rfl, rfl⟩) | (at_builtin; refine wpList_append_own _ rfl _ _ 22 rfl w.heap.size 3 i0 (.int .i64 0) 1 8 Try.underlying22 hi hz0 hz1 hz2 rfl (by decide) _ _ _ rfl (hown.alloc _) ⟨wr.heap.size, 0, none⟩ 1 1 [.int .i64 k] rfl rfl ?c1 ?c2 ?c3 ?c4 ?c5 ?_))
        case c1 =>
          intro j u hj
          match j, hj with
          | 0, hj => simp at hj; subst hj; simp [Addr.add]
        case c2 => intro u hu; simp at hu; subst hu; rfl
        case c3 => unfold maxLen; omega
        case c4 => omega
        case c5 => simp; omega
        · intro v' w1 hown' hgrow _
          have hlt := World.ownsRow.lt hown
          have hb1 : Below w.heap.size w w1 := (hb.alloc hsz _).grown hgrow (by simp; omega) (fun b e => (hlt b e).1)
          have HO := Lib.hid hown'
          clear hown' hgrow hown
          go_wp2_with fail
          go_roundw
          case rel => exact ⟨k + 1, by omega, by go_num, by simpa [elemsTo, hin] using HO.out, hb1⟩
          case measure => simp [intOf]; omega

theorem l1In_any (n lo hi : Int) (w : World) :
    Calls Try.prog 68 #[.int .i64 n, .int .i64 lo, .int .i64 hi] w fun e w' => e = .returned (.bool (inB n lo hi)) ∧ w = w' := by
  go_enter Try.func68, Try.ntmps68
  go_wp2
  all_goals (go_ret; exact ⟨ret_bool (by simp [inB]; try omega), rfl⟩)
theorem l1In_is {n lo hi : Int} {b : Bool} (h : inB n lo hi = b) (w : World) (m : Nat) :
    Calls Try.prog 68 #[.int .i64 n, .int .i64 lo, .int .i64 hi] (w.drewN m) fun e w' => e = .returned (.bool b) ∧ ∃ k, w' = w.drewN k :=
  Calls.quiet_of_same ((l1In_any n lo hi (w.drewN m)).mono (fun e w' hh => ⟨by rw [← h]; exact hh.1, hh.2.symm⟩))

theorem l1All_any (a : Option Addr) (xs : List Int) (cap : Nat) (lo hi : Int) (w : World) (hx : Rd w a xs) :
    Calls Try.prog 88 #[.slice a xs.length cap, .int .i64 lo, .int .i64 hi] w fun e w' => e = .returned (.bool (allB xs lo hi)) ∧ w = w' := by
  have hlen := hx.len
  go_enter Try.func88, Try.ntmps88
  go_wp2_with fail
  go_loop [11] (fun i => ∃ k : Nat, k ≤ xs.length ∧ i = .int .i64 k ∧ allB (xs.take k) lo hi = true) (fun i => xs.length - (intOf i).toNat)
  case atStart => exact ⟨0, Nat.zero_le _, rfl, rfl⟩
  case round =>
    obtain ⟨k, hk, rfl, hall⟩ := hrel
    by_cases hlt : k < xs.length
    · obtain ⟨b, off, rfl, hbl, hc⟩ := hx.cell k hlt
      cases hin : inB (nth xs k) lo hi
      · have hf := Lib.hid (allB_false hlt hin)
        go_wp2_with (go_at_call 68; refine (l1In_any _ _ _ _).mono ?_; rintro e w' ⟨rfl, rfl⟩)
        go_ret
        exact ⟨ret_bool hf.out.symm, rfl⟩
      · go_wp2_with (go_at_call 68; refine (l1In_any _ _ _ _).mono ?_; rintro e w' ⟨rfl, rfl⟩)
        go_round
        case rel => exact ⟨k + 1, by omega, by go_num, by rw [allB_take _ _ _ _ hlt, hall, hin]; rfl⟩
        case measure => simp [intOf]; omega
    · go_wp2_with fail
      go_ret
      exact ⟨ret_bool (by rw [← hall, List.take_of_length_le (by omega)]), rfl⟩
theorem l1All_is {a : Option Addr} {xs : List Int} {cap : Nat} {lo hi : Int} {b : Bool} {w : World} (hx : Rd w a xs) (h : allB xs lo hi = b) (m : Nat) :
    Calls Try.prog 88 #[.slice a xs.length cap, .int .i64 lo, .int .i64 hi] (w.drewN m) fun e w' => e = .returned (.bool b) ∧ ∃ k, w' = w.drewN k :=
  Calls.quiet_of_same ((l1All_any a xs cap lo hi (w.drewN m) (hx.below (Joins.below_draws _ _ _))).mono (fun e w' hh => ⟨by rw [← h]; exact hh.1, hh.2.symm⟩))

theorem orRelation_any (n : Int) (a : Option Addr) (xs : List Int) (cap : Nat) (w : World) (hx : Rd w a xs) :
    Calls Try.prog 90 #[.agg #[.int .i64 n, .slice a xs.length cap]] w fun e w' => e = .returned (.bool (relB n xs)) ∧ Below w.heap.size w w' := by
  have hx1 := hx.alloc (.cells #[.int .i64 n, .slice a xs.length cap] 46)
  cases h1 : inB n 0 10
  · have HR : Hid (relB n xs = false) := by simp [Hid, relB, h1]
    go_enter Try.func90, Try.ntmps90
    go_wp2_with fail
    go_quiet ((go_at_call 68; exact l1In_is h1 _ _))
    go_wp2_with fail
    go_ret
    exact ⟨ret_bool HR.out.symm, (Below.refl _ _).alloc (Nat.le_refl _) _ |>.trans (Joins.below_draws _ _ _)⟩
  · have hn := inB_iff.1 h1
    cases h2 : ((xs.length : Int) == n)
    · have HR : Hid (relB n xs = false) := by
        have : ¬ (xs.length : Int) = n := by simpa using h2
        simp [Hid, relB, h1, this]
      go_enter Try.func90, Try.ntmps90
      go_wp2_with fail
      go_quiet ((go_at_call 68; exact l1In_is h1 _ _))
      go_wp2_with fail
      go_ret
      exact ⟨ret_bool HR.out.symm, (Below.refl _ _).alloc (Nat.le_refl _) _ |>.trans (Joins.below_draws _ _ _)⟩
    · cases h3 : allB xs 0 (wrap64 (wrap64 (2 ^ n.toNat) - 1))
      all_goals
        have HR : Hid (relB n xs = allB xs 0 (wrap64 (wrap64 (2 ^ n.toNat) - 1))) := by
          have : (xs.length : Int) = n := by simpa using h2
          simp only [Hid, relB, h1, this, full_eq hn.1 hn.2]
          simp
        have H3 := Lib.hid h3
        clear h3
        go_enter Try.func90, Try.ntmps90
        go_wp2_with fail
        go_quiet ((first | (go_at_call 68; exact l1In_is h1 _ _) | (go_at_call 88; exact l1All_is hx1 H3.out _)))
        go_wp2_with fail
        go_ret
        exact ⟨ret_bool (by rw [HR.out, H3.out]), (Below.refl _ _).alloc (Nat.le_refl _) _ |>.trans (Joins.below_draws _ _ _)⟩

theorem elem_at {n : Int} {xs : List Int} (hp : RelP n xs) {k : Nat} (hk : k < xs.length) {m : Nat} (hm : m < (elems (nth xs k).toNat).length) :
    ∃ i : Nat, i < xs.length ∧ hasB (nth xs k) i = true ∧ nth (elems (nth xs k).toNat) m = (i : Int) := by
  have h1 := hp.small k hk
  have h0 := hp.pos k hk
  obtain ⟨i, hb, e⟩ := (mem_elems (by omega)).1 (nth_mem hm)
  exact ⟨i, has_lt hp hk hb, hb, e⟩
theorem at_elem {n : Int} {xs : List Int} (hp : RelP n xs) {k : Nat} (hk : k < xs.length) {j : Nat} (h : hasB (nth xs k) j = true) :
    ∃ m, m < (elems (nth xs k).toNat).length ∧ nth (elems (nth xs k).toNat) m = (j : Int) := by
  have h1 := hp.small k hk
  have h0 := hp.pos k hk
  have : (j : Int) ∈ elems (nth xs k).toNat := (mem_elems (by omega)).2 ⟨j, h, rfl⟩
  obtain ⟨m, hm, e⟩ := mem_nth this
  exact ⟨m, hm, e⟩
theorem orGood_any (n : Int) (a : Option Addr) (xs : List Int) (cap : Nat) (w : World) (hx : Rd w a xs) :
    Calls Try.prog 67 #[.agg #[.int .i64 n, .slice a xs.length cap]] w fun e w' => e = .returned (.bool (ordB n xs)) ∧ Below w.heap.size w w' := by
  have hx1 := hx.alloc (.cells #[.int .i64 n, .slice a xs.length cap] 46)
  have hlen := hx.len
  cases hr : relB n xs
  · have HR : Hid (ordB n xs = false) := by simp [Hid, ordB, hr]
    go_enter Try.func67, Try.ntmps67
    go_wp2_with fail
    refine (orRelation_any _ _ _ _ _ hx1).mono ?_
    rintro e w1 ⟨rfl, hb1⟩
    go_wp2_with fail
    go_ret
    exact ⟨ret_bool HR.out.symm, Below.trans (by repeat (first | exact Below.refl _ _ | assumption | refine Below.alloc ?_ (by first | exact Nat.le_refl _ | (simp only [World.size_alloc, World.size_setCell, World.size_drew]; omega) | omega) _ | refine Below.setCell ?_ (by first | exact Nat.le_refl _ | (simp only [World.size_alloc, World.size_setCell, World.size_drew]; omega) | omega) _ | refine Below.drew ?_)) (hb1.mono (by first | (simp only [World.size_alloc, World.size_setCell, World.size_drew]; omega) | omega))⟩
  · have hp := relB_p hr
    go_enter Try.func67, Try.ntmps67
    go_wp2_with fail
    refine (orRelation_any _ _ _ _ _ hx1).mono ?_
    rintro e w1 ⟨rfl, hb1⟩
    have B1 := (Box2.new w _ _ _).below hb1
    have ⟨z1, c1, d1⟩ := B1
    have bw1 : Below w.heap.size w w1 := Below.trans (by repeat (first | exact Below.refl _ _ | assumption | refine Below.alloc ?_ (by first | exact Nat.le_refl _ | (simp only [World.size_alloc, World.size_setCell, World.size_drew]; omega) | omega) _ | refine Below.setCell ?_ (by first | exact Nat.le_refl _ | (simp only [World.size_alloc, World.size_setCell, World.size_drew]; omega) | omega) _ | refine Below.drew ?_)) (hb1.mono (by first | (simp only [World.size_alloc, World.size_setCell, World.size_drew]; omega) | omega))
    have HR := Lib.hid hr
    clear hb1
    go_wp2_with fail
    clear hr
    go_loopw [13] (fun i wr => ∃ k : Nat, k ≤ xs.length ∧ i = .int .i64 k ∧ (∀ j, j < k → okAtB xs j = true) ∧ Below w1.heap.size w1 wr) (fun i _ => xs.length - (intOf i).toNat)
    case atStart => exact ⟨0, Nat.zero_le _, rfl, fun j hj => by omega, Below.refl _ _⟩
    case round =>
      obtain ⟨k, hk, rfl, hall, hb⟩ := hrel
      have Br := B1.below hb
      have ⟨zr, cr, dr⟩ := Br
      have bwr := bw1.trans (hb.mono bw1.size)
      have HA := Lib.hid hall
      clear hall c1 d1
      by_cases hlt : k < xs.length
      · obtain ⟨b, off, rfl, hbl, hc⟩ := (hx.below bwr).cell k hlt
        have hpk := hp.pos k hlt
        have hsk := hp.small k hlt
        have hsk' : nth xs k ≤ 9223372036854775807 := by omega
        cases hin : hasB (nth xs k) k
        · go_wp2_with fail
          refine (orHas_any _ _ _ hpk hsk' (by omega)).mono ?_
          rintro e w' ⟨rfl, rfl⟩
          go_wp2_with fail
          refine (orList_any _ _ hpk hsk).mono ?_
          rintro e w2 ⟨a2, cap2, rfl, ho2, hb2⟩
          have ⟨z2, c2, d2⟩ := Br.below hb2
          have bw2 := bwr.trans (hb2.mono bwr.size)
          have hx2 := hx.below bw2
          have hr2 := ho2.rd
          have bk2 := hb.trans (hb2.mono hb.size)
          have hel := elems_len (nth xs k).toNat
          have HI := Lib.hid hin
          clear hin cr dr hc
          obtain ⟨es, hes⟩ : ∃ es, es = elems (nth xs k).toNat := ⟨_, rfl⟩
          rw [← hes] at ho2 hr2 hel
          have HES := Lib.hid hes
          rw [← hes]
          clear hes ho2 hb2
          go_wp2_with fail
          go_loop [24] (fun i => ∃ j : Nat, j ≤ es.length ∧ i = .int .i64 j ∧ (∀ m, m < j → sub (nth xs (nth es m).toNat).toNat (nth xs k).toNat = 0)) (fun i => es.length - (intOf i).toNat)
          case atStart => exact ⟨0, Nat.zero_le _, rfl, fun m hm => by omega⟩
          case round =>
            obtain ⟨j, hj, rfl, hin2⟩ := hrel
            have HIN := Lib.hid hin2
            clear hin2
            by_cases hjl : j < es.length
            · obtain ⟨b2, off2, rfl, hbl2, hc2⟩ := hr2.cell j hjl
              obtain ⟨i, hil, hib, hie⟩ : ∃ i : Nat, i < xs.length ∧ hasB (nth xs k) i = true ∧ nth es j = (i : Int) := by
                have := elem_at hp hlt (m := j) (by rw [← HES.out]; exact hjl)
                rw [← HES.out] at this
                exact this
              obtain ⟨b3, off3, e3, hbl3, hc3⟩ := hx2.cell i hil
              simp only [Option.some.injEq, Addr.mk.injEq, and_true] at e3
              obtain ⟨rfl, rfl⟩ := e3
              have hpi := hp.pos i hil
              have hsi := hp.small i hil
              have hsub := sub_i (a := nth xs i) (b := nth xs k) hpi (by omega) hpk (by omega)
              have HB := Lib.hid hib
              have HE := Lib.hid hie
              rw [hie] at hc2
              clear hib hie
              by_cases hz : sub (nth xs i).toNat (nth xs k).toNat = 0
              · have hne : (bits BinOp.andNot IntKind.i64 (nth xs i) (nth xs k) != 0) = false := by rw [hsub, hz]; rfl
                have HZ := Lib.hid hz
                clear hz hsub
                go_wp2_with fail
                go_round
                case rel =>
                  refine ⟨j + 1, by omega, by go_num, fun m hm => ?_⟩
                  by_cases e : m = j
                  · rw [e, HE.out, Int.toNat_natCast]; exact HZ.out
                  · exact HIN.out m (by omega)
                case measure => simp [intOf]; omega
              · have hne : (bits BinOp.andNot IntKind.i64 (nth xs i) (nth xs k) != 0) = true := by rw [hsub]; simp; omega
                have HN := Lib.hid (ordB_no (n := n) hlt (okAtB_sub hil HB.out hz))
                clear hz hsub
                go_wp2_with fail
                go_ret
                exact ⟨ret_bool HN.out.symm, bw2⟩
            · obtain rfl : j = es.length := by omega
              have hok : okAtB xs k = true := by
                rw [okAtB_iff]
                refine ⟨HI.out, fun j hj hbj => ?_⟩
                obtain ⟨m, hm, e⟩ := at_elem hp hlt hbj
                rw [← HES.out] at hm e
                have := HIN.out m hm
                rwa [e, Int.toNat_natCast] at this
              have HK := Lib.hid hok
              clear hok
              go_wp2_with fail
              go_roundw
              case rel =>
                refine ⟨k + 1, by omega, by go_num, fun j hj => ?_, bk2⟩
                by_cases e : j = k
                · rw [e]; exact HK.out
                · exact HA.out j (by omega)
              case measure => simp [intOf]; omega
        · have HN := Lib.hid (ordB_no (n := n) hlt (okAtB_has hin))
          go_wp2_with fail
          refine (orHas_any _ _ _ hpk hsk' (by omega)).mono ?_
          rintro e w' ⟨rfl, rfl⟩
          go_wp2_with fail
          go_ret
          exact ⟨ret_bool HN.out.symm, bwr⟩
      · obtain rfl : k = xs.length := by omega
        go_wp2_with fail
        go_ret
        exact ⟨ret_bool (ordB_iff.2 ⟨HR.out, HA.out⟩).symm, bwr⟩

theorem l1Rising_any (n : Int) (a : Option Addr) (es : List Int) (cap : Nat) (w : World) (hx : Rd w a es) :
    Calls Try.prog 69 #[.slice a es.length cap, .int .i64 0, .int .i64 (n - 1)] w fun e w' => e = .returned (.bool (incB n es)) ∧ w = w' := by
  have hlen := hx.len
  go_enter Try.func69, Try.ntmps69
  go_wp2_with fail
  go_loop [11] (fun i => ∃ k : Nat, k ≤ es.length ∧ i = .int .i64 k ∧ ∀ j, j < k → okI n es j = true) (fun i => es.length - (intOf i).toNat)
  case atStart => exact ⟨0, Nat.zero_le _, rfl, fun j hj => by omega⟩
  case round =>
    obtain ⟨k, hk, rfl, hall⟩ := hrel
    have HA := Lib.hid hall
    clear hall
    by_cases hlt : k < es.length
    · obtain ⟨b, off, rfl, hbl, hc⟩ := hx.cell k hlt
      cases hin : inB (nth es k) 0 (n - 1)
      · have hno : okI n es k = false := by
          have : elemB (nth es k) n = false := by rw [elemB_no]; have := inB_no.1 hin; omega
          simp [okI, this]
        have HN := Lib.hid (incB_no hlt hno)
        go_wp2_with (go_at_call 68; refine (l1In_any _ _ _ _).mono ?_; rintro e w' ⟨rfl, rfl⟩)
        go_ret
        exact ⟨ret_bool HN.out.symm, rfl⟩
      · have hel : elemB (nth es k) n = true := by rw [elemB_iff]; have := inB_iff.1 hin; omega
        by_cases hk0 : k = 0
        · subst hk0
          simp only [Nat.add_zero] at hc
          have HN := Lib.hid (show okI n es 0 = true by simp [okI, hel])
          go_wp2_with (go_at_call 68; refine (l1In_any _ _ _ _).mono ?_; rintro e w' ⟨rfl, rfl⟩)
          go_round
          case rel => exact ⟨1, by omega, by go_num, fun j hj => by obtain rfl : j = 0 := by omega
                                                                    exact HN.out⟩
          case measure => simp [intOf]; omega
        · obtain ⟨m, rfl⟩ : ∃ m, k = m + 1 := ⟨k - 1, by omega⟩
          obtain ⟨b', off', e', hbl', hc'⟩ := hx.cell m (by omega)
          simp only [Option.some.injEq, Addr.mk.injEq, and_true] at e'
          obtain ⟨rfl, rfl⟩ := e'
          by_cases hge : nth es (m+1) ≤ nth es m
          · have hno : okI n es (m+1) = false := by
              simp only [okI, hel, Bool.true_and, Nat.add_sub_cancel]
              simp
              omega
            have HN := Lib.hid (incB_no hlt hno)
            clear hno hel
            go_wp2_with (go_at_call 68; refine (l1In_any _ _ _ _).mono ?_; rintro e w' ⟨rfl, rfl⟩)
            go_ret
            exact ⟨ret_bool HN.out.symm, rfl⟩
          · have hyes : okI n es (m+1) = true := by
              simp only [okI, hel, Bool.true_and, Nat.add_sub_cancel]
              simp
              omega
            have HN := Lib.hid hyes
            have hlt2 : nth es m < nth es (m+1) := by omega
            clear hyes hel hge
            go_wp2_with (go_at_call 68; refine (l1In_any _ _ _ _).mono ?_; rintro e w' ⟨rfl, rfl⟩)
            go_round
            case rel =>
              refine ⟨m + 2, by omega, by go_num, fun j hj => ?_⟩
              by_cases e : j = m + 1
              · rw [e]; exact HN.out
              · exact HA.out j (by omega)
            case measure => simp [intOf]; omega
    · obtain rfl : k = es.length := by omega
      have HN := Lib.hid (incB_iff.2 HA.out)
      go_wp2_with fail
      go_ret
      exact ⟨ret_bool HN.out.symm, rfl⟩

/-- one number more at the end of a row that is owned -/
theorem push_at {ops : Array Oper} {rest : List Oper} {o : Oper} {a : Act} {Q : Exit → Act → World → Prop} (hgd : o.guard = none) (s x : Operand)
    (ho : o.op = .call { callee := .builtin .append, args := #[s, x], argTypes := #[22, 22] }) {wr : World} {B : Nat} {v : Value} {ys : List Int} {z : Int}
    (hs : a.eval s = v) (hown : OwnI wr B v ys) (hx : a.eval x = .slice (some ⟨wr.heap.size, 0, none⟩) 1 1) (h63 : ys.length ≤ 1048576) (hB : B ≤ wr.heap.size)
    (h : ∀ v' w', OwnI w' B v' (ys ++ [z]) → wr.grownBy w' v.ownBlock → (v'.ownBlock = v.ownBlock ∨ v'.ownBlock = some (wr.heap.size + 1)) → wpList Try.prog ops Q rest (a.put o.dst v') w') :
    wpList Try.prog ops Q (o :: rest) a (wr.alloc (.cells #[.int .i64 z] 3)) := by
  obtain ⟨i0, hi, hz0, hz1, hz2⟩ := info_parts infoInt
  refine wpList_append_own_at _ hgd s x 22 ho B 3 i0 (.int .i64 0) 1 8 Try.underlying22 hi hz0 hz1 hz2 rfl (by decide) v ys.length (ys.map (Value.int .i64)) hs (hown.alloc _) ⟨wr.heap.size, 0, none⟩ 1 1 [.int .i64 z] hx rfl (cell_one_new _ _ _) (by intro u hu; simp at hu; subst hu; rfl) (by unfold maxLen; omega) (by omega) (by simp; omega) ?_
  intro v' w' ho2 hg _ hat
  refine h v' w' ?_ (grown_alloc_set hg) (by simpa using hat)
  unfold OwnI
  rw [List.length_append, List.map_append]
  exact ho2
/-- the same at a step of a region that draws its order; the new number lies somewhere -/
theorem step_push {ops : Array Oper} {o : Oper} {a : Act} {K : Act → World → Prop} {Q : Exit → Act → World → Prop} {E : Prop} (hgd : o.guard = none) (s x : Operand)
    (ho : o.op = .call { callee := .builtin .append, args := #[s, x], argTypes := #[22, 22] }) {W : World} {B g n : Nat} {v : Value} {ys : List Int} {z : Int}
    (hs : a.eval s = v) (hx : a.eval x = .slice (some ⟨g, 0, none⟩) 1 1) (hown : OwnI W B v ys) (hn : ys.length = n) (hz : W.cell? ⟨g, 0, none⟩ = some (.int .i64 z)) (h63 : n ≤ 1048576) (hB : B ≤ W.heap.size)
    (h : ∀ g' cap w', OwnI w' B (.slice (some ⟨g', 0, none⟩) (n + 1) cap) (ys ++ [z]) → W.grownBy w' v.ownBlock → (v.ownBlock = some g' ∨ g' = W.heap.size) → K (a.put o.dst (.slice (some ⟨g', 0, none⟩) (n + 1) cap)) w') :
    if Region.wanted o (yielded ops a.tmps) = true then Oper.wp Try.prog o a W K Q else E := by
  subst hn
  obtain ⟨i0, hi, hz0, hz1, hz2⟩ := info_parts infoInt
  refine step_append_lies W hgd s x 22 ho B 3 i0 (.int .i64 0) 1 8 Try.underlying22 hi hz0 hz1 hz2 rfl (by decide) v ys.length (ys.map (Value.int .i64)) hs hown ⟨g, 0, none⟩ 1 1 [.int .i64 z] hx rfl ?_ (by intro u hu; simp at hu; subst hu; rfl) (by omega) (by unfold maxLen; omega) (by omega) hB W.heap.size rfl ?_
  · intro j u hj
    obtain ⟨hlt, e⟩ := List.getElem?_eq_some_iff.1 hj
    have h0 : j = 0 := by simpa using hlt
    subst h0
    simp at e
    subst e
    rw [Addr.add_lit]; simpa using hz
  · intro g' cap w' ho2 hg hat _
    refine h g' cap w' ?_ hg hat
    unfold OwnI
    rw [List.length_append, List.map_append]
    exact ho2
theorem news_after {w w3 : World} {x : Int} {m : Nat} (h : Below ((w.drewN m).alloc (.cells #[.int .i64 x] 3)).heap.size ((w.drewN m).alloc (.cells #[.int .i64 x] 3)) w3) : w3.cell? ⟨w.heap.size, 0, none⟩ = some (.int .i64 x) :=
  (h.cell (p := ⟨w.heap.size, 0, none⟩) (show w.heap.size < ((w.drewN m).alloc _).heap.size by rw [World.size_alloc]; exact Nat.lt_succ_of_le (Joins.below_draws w.heap.size w m).size)).trans ((show ∀ W : World, (W.alloc (.cells #[.int .i64 x] 3)).cell? ⟨W.heap.size, 0, none⟩ = some (.int .i64 x) from fun W => by simp) (w.drewN m))
theorem below_after {w w3 : World} {m : Nat} {o : Obj} (h : Below ((w.drewN m).alloc o).heap.size ((w.drewN m).alloc o) w3) : Below w.heap.size w w3 :=
  Below.trans ((Joins.below_draws w.heap.size w m).alloc (Joins.below_draws w.heap.size w m).size _) (h.mono (Nat.le_trans (Joins.below_draws w.heap.size w m).size (by simp)))
theorem below_drew {w w3 : World} {m : Nat} (h : Below (w.drewN m).heap.size (w.drewN m) w3) : Below w.heap.size w w3 :=
  Below.trans (Joins.below_draws w.heap.size w m) (h.mono (Joins.below_draws w.heap.size w m).size)
/-- two values that own no block together -/
def SepV (v u : Value) : Prop := ∀ c, v.ownBlock = some c → u.ownBlock ≠ some c
theorem SepV.symm {v u : Value} (h : SepV v u) : SepV u v := fun c e e2 => h c e2 e
/-- the first of two rows has grown -/
theorem SepV.grow {w : World} {B : Nat} {v v' u : Value} {ys : List Int} {m : Nat} (h : SepV v u) (hu : OwnI w B u ys) (hm : w.heap.size ≤ m) (hat : v'.ownBlock = v.ownBlock ∨ v'.ownBlock = some m) : SepV v' u := by
  intro c e e2
  rcases hat with h1 | h1
  · exact h c (h1 ▸ e) e2
  · rw [h1] at e
    have := (hu.lt c e2).2
    simp only [Option.some.injEq] at e
    omega

/-- one step of the closing: what is above k goes to i, if k is above i -/
def clStep (xs : List Int) (k i : Nat) : List Int := if hasB (nth xs i) k then xs.set i (((nth xs i).toNat ||| (nth xs k).toNat : Nat) : Int) else xs
def clRow (xs : List Int) (k : Nat) : Nat → List Int
  | 0 => xs
  | i+1 => clStep (clRow xs k i) k i
def clAll (xs : List Int) : Nat → List Int
  | 0 => xs
  | k+1 => clRow (clAll xs k) k xs.length
theorem clStep_len (xs : List Int) (k i : Nat) : (clStep xs k i).length = xs.length := by
  unfold clStep; split <;> simp
theorem clRow_len (xs : List Int) (k : Nat) : ∀ i, (clRow xs k i).length = xs.length
  | 0 => rfl
  | i+1 => by rw [clRow, clStep_len, clRow_len xs k i]
theorem clAll_len (xs : List Int) : ∀ k, (clAll xs k).length = xs.length
  | 0 => rfl
  | k+1 => by rw [clAll, clRow_len, clAll_len xs k]
/-- all numbers of a list are sets below 1024 -/
def Small (xs : List Int) : Prop := ∀ k, k < xs.length → 0 ≤ nth xs k ∧ nth xs k < 1024
theorem nth_set {xs : List Int} {i j : Nat} {x : Int} (hi : i < xs.length) : nth (xs.set i x) j = if i = j then x else nth xs j := by
  simp only [nth, List.getD_eq_getElem?_getD, List.getElem?_set]
  by_cases h : i = j
  · subst h; simp [hi]
  · simp [h]
theorem clStep_small {xs : List Int} (h : Small xs) {k i : Nat} (hk : k < xs.length) (hi : i < xs.length) : Small (clStep xs k i) := by
  unfold clStep
  split
  · intro j hj
    rw [nth_set hi]
    have h1 := h i hi
    have h2 := h k hk
    split
    · have : (nth xs i).toNat ||| (nth xs k).toNat < 2 ^ 10 := or_lt (by omega) (by omega)
      omega
    · exact h j (by simpa using hj)
  · exact h
theorem clRow_small {xs : List Int} (h : Small xs) {k : Nat} (hk : k < xs.length) : ∀ i, i ≤ xs.length → Small (clRow xs k i)
  | 0, _ => h
  | i+1, hi => clStep_small (clRow_small h hk i (by omega)) (by rw [clRow_len]; exact hk) (by rw [clRow_len]; omega)
theorem clAll_small {xs : List Int} (h : Small xs) : ∀ k, k ≤ xs.length → Small (clAll xs k)
  | 0, _ => h
  | k+1, hk => clRow_small (clAll_small h k (by omega)) (by rw [clAll_len]; omega) _ (by rw [clAll_len]; omega)
theorem RelP.sm {n : Int} {xs : List Int} (h : RelP n xs) : Small xs := fun k hk => ⟨h.pos k hk, h.small k hk⟩
theorem set_ints (xs : List Int) (i : Nat) (x : Int) : (xs.map (Value.int .i64)).set i (.int .i64 x) = (xs.set i x).map (Value.int .i64) := by
  rw [List.map_set]
/-- a store into an owned row -/
theorem OwnI.put {w : World} {B g n cap : Nat} {xs : List Int} (h : OwnI w B (.slice (some ⟨g, 0, none⟩) n cap) xs) (hn : n = xs.length) (i : Nat) (x : Int) :
    OwnI (w.setCell ⟨g, i, none⟩ (.int .i64 x)) B (.slice (some ⟨g, 0, none⟩) n cap) (xs.set i x) ∧ w.grownBy (w.setCell ⟨g, i, none⟩ (.int .i64 x)) (some g) := by
  subst hn
  have hst := World.ownsRow.stored h i (.int .i64 x)
  rw [set_ints] at hst
  refine ⟨?_, hst.2⟩
  unfold OwnI
  rw [List.length_set]
  exact hst.1
theorem OwnI.at' {w : World} {B g n cap : Nat} {xs : List Int} (h : OwnI w B (.slice (some ⟨g, 0, none⟩) n cap) xs) (hn : n = xs.length) {i : Nat} (hi : i < xs.length) :
    w.cell? ⟨g, i, none⟩ = some (.int .i64 (nth xs i)) ∧ w.frozen? ⟨g, i, none⟩ = false := by
  subst hn
  refine ⟨?_, World.ownsRow.frozenAt h i⟩
  rw [World.ownsRow.cellAt h i (by omega)]
  simp [nth, hi]
theorem OwnI.head {w : World} {B n cap : Nat} {a : Option Addr} {xs : List Int} (h : OwnI w B (.slice a n cap) xs) (hp : 0 < xs.length) : ∃ g, a = some ⟨g, 0, none⟩ ∧ B ≤ g ∧ g < w.heap.size := by
  rcases h.2 with ⟨e, h0⟩ | ⟨g, c, cur, e, hb, hg, _⟩
  · omega
  · simp only [Value.slice.injEq] at e
    exact ⟨g, e.1, hb, (Array.getElem?_eq_some_iff.1 hg).1⟩
def cloN (n : Int) (xs : List Int) : Int := if relB n xs then n else 0
def cloL (n : Int) (xs : List Int) : List Int := if relB n xs then clAll xs xs.length else []
theorem cloL_len (n : Int) (xs : List Int) : (cloL n xs).length ≤ 1048576 := by
  unfold cloL
  split
  · rename_i h
    have hp := relB_p h
    have := hp.len
    have := hp.n1
    rw [clAll_len]
    omega
  · simp

set_option maxRecDepth 100000 in
theorem sTabOrd_any (n : Int) (a : Option Addr) (xs : List Int) (cap : Nat) (b : Option Addr) (ra : List Int) (cb : Nat) (d : Option Addr) (ca : List Int) (cd : Nat) (w : World) (hn : -9223372036854775808 ≤ n ∧ n ≤ 9223372036854775807) (hx : Rd w a xs) (hy : Rd w b ra) (hz : Rd w d ca) :
    Calls Try.prog 36 #[.agg #[.int .i64 n, .slice a xs.length cap], .slice b ra.length cb, .slice d ca.length cd] w (GotT w (toR n xs ra ca) (toC n xs ra ca) (toL n xs ra ca) (okTO n xs ra ca)) := by
  have hly := hy.len
  have hlz := hz.len
  have b0 : Below w.heap.size w (((w.alloc (.cells #[.int .i64 n, .slice a xs.length cap] 46)).alloc (.cells #[.int .i64 0, .int .i64 0, .slice none 0 0] 27))) := (by repeat (first | exact Below.refl _ _ | assumption | refine Below.alloc ?_ (by first | exact Nat.le_refl _ | (simp only [World.size_alloc, World.size_setCell, World.size_drew]; omega) | omega) _ | refine Below.setCell ?_ (by first | exact Nat.le_refl _ | (simp only [World.size_alloc, World.size_setCell, World.size_drew]; omega) | omega) _ | refine Below.drew ?_))
  have A0 : Box2 (((w.alloc (.cells #[.int .i64 n, .slice a xs.length cap] 46)).alloc (.cells #[.int .i64 0, .int .i64 0, .slice none 0 0] 27))) w.heap.size (.int .i64 n) (.slice a xs.length cap) := (Box2.new w _ _ _).below ((Below.refl _ _).alloc (Nat.le_refl _) _)
  have V0 : Var3 (((w.alloc (.cells #[.int .i64 n, .slice a xs.length cap] 46)).alloc (.cells #[.int .i64 0, .int .i64 0, .slice none 0 0] 27))) (w.heap.size + 1) (.int .i64 0) (.int .i64 0) (.slice none 0 0) := by simpa using Var3.new (w.alloc (.cells #[.int .i64 n, .slice a xs.length cap] 46)) (.int .i64 0) (.int .i64 0) (.slice none 0 0) 27
  have HF0 : Hid (okTO n xs ra ca = false → ∀ w1 : World, Below w.heap.size w w1 → GotT w (toR n xs ra ca) (toC n xs ra ca) (toL n xs ra ca) (okTO n xs ra ca) (.returned (.tuple #[.agg #[.int .i64 0, .int .i64 0, .slice none 0 0], .bool false])) (((w1.setCell ⟨w.heap.size + 1, 0, none⟩ (.int .i64 0)).setCell ⟨w.heap.size + 1, 1, none⟩ (.int .i64 0)).setCell ⟨w.heap.size + 1, 2, none⟩ (.slice none 0 0))) := fun h w1 hb1 =>
    ⟨none, 0, by simp [toR, toC, toL, h], by simp only [toL, h]; exact OwnI.nil _ _, ((hb1.setCell (by simp) _).setCell (by simp) _).setCell (by simp) _⟩
  cases h0 : ordB n xs
  · have HF : Hid (okTO n xs ra ca = false) := by simp [Hid, okTO, h0]
    have H0 := Lib.hid h0
    clear h0
    go_enter Try.func36, Try.ntmps36
    go_wp2_with fail
    refine (orGood_any _ _ _ _ _ (hx.below b0)).mono ?_
    rw [H0.out]
    rintro e w1 ⟨rfl, hb⟩
    have b1 := b0.trans (hb.mono b0.size)
    have V1 := V0.below hb
    have A1 := A0.below hb
    have ⟨zA, cA, dA⟩ := A1
    have ⟨⟨zV, cV, dV, eV⟩, fV, gV, iV⟩ := V1
    have b1s := b1.size
    clear hb
    go_wp2_with fail
    have V2 := V1.set (.int .i64 0) (.int .i64 0) (.slice none 0 0)
    exact bodyPost_ret (v := .tuple #[.agg #[.int .i64 0, .int .i64 0, .slice none 0 0], .bool false]) (by have ⟨⟨_, q1, q2, q3⟩, _, _, _⟩ := V2; simp [results, Try.results36, go_sem, q1, q2, q3]) rfl (HF0.out HF.out _ b1)
  · have HP1 := ord_rel h0
    have n0 := HP1.n0
    have n1 := HP1.n1
    clear HP1
    cases h1 : inB (ra.length : Int) 1 6
    · have HF : Hid (okTO n xs ra ca = false) := by simp [Hid, okTO, h1]
      have H0 := Lib.hid h0
      have H1 := Lib.hid h1
      clear h0 h1
      go_enter Try.func36, Try.ntmps36
      go_wp2_with fail
      refine (orGood_any _ _ _ _ _ (hx.below b0)).mono ?_
      rw [H0.out]
      rintro e w1 ⟨rfl, hb⟩
      have b1 := b0.trans (hb.mono b0.size)
      have V1 := V0.below hb
      have A1 := A0.below hb
      have ⟨zA, cA, dA⟩ := A1
      have ⟨⟨zV, cV, dV, eV⟩, fV, gV, iV⟩ := V1
      have b1s := b1.size
      clear hb
      go_wp2_with fail
      refine (l1In_any _ _ _ _).mono ?_
      rw [H1.out]
      rintro e w' ⟨rfl, rfl⟩
      go_wp2_with fail
      have V2 := V1.set (.int .i64 0) (.int .i64 0) (.slice none 0 0)
      exact bodyPost_ret (v := .tuple #[.agg #[.int .i64 0, .int .i64 0, .slice none 0 0], .bool false]) (by have ⟨⟨_, q1, q2, q3⟩, _, _, _⟩ := V2; simp [results, Try.results36, go_sem, q1, q2, q3]) rfl (HF0.out HF.out _ b1)
    · skip
      cases h2 : inB (ca.length : Int) 1 6
      · have HF : Hid (okTO n xs ra ca = false) := by simp [Hid, okTO, h2]
        have H0 := Lib.hid h0
        have H1 := Lib.hid h1
        have H2 := Lib.hid h2
        clear h0 h1 h2
        go_enter Try.func36, Try.ntmps36
        go_wp2_with fail
        refine (orGood_any _ _ _ _ _ (hx.below b0)).mono ?_
        rw [H0.out]
        rintro e w1 ⟨rfl, hb⟩
        have b1 := b0.trans (hb.mono b0.size)
        have V1 := V0.below hb
        have A1 := A0.below hb
        have ⟨zA, cA, dA⟩ := A1
        have ⟨⟨zV, cV, dV, eV⟩, fV, gV, iV⟩ := V1
        have b1s := b1.size
        clear hb
        go_wp2_with fail
        refine (l1In_any _ _ _ _).mono ?_
        rw [H1.out]
        rintro e w' ⟨rfl, rfl⟩
        go_wp2_with fail
        refine (l1In_any _ _ _ _).mono ?_
        rw [H2.out]
        rintro e w' ⟨rfl, rfl⟩
        go_wp2_with fail
        have V2 := V1.set (.int .i64 0) (.int .i64 0) (.slice none 0 0)
        exact bodyPost_ret (v := .tuple #[.agg #[.int .i64 0, .int .i64 0, .slice none 0 0], .bool false]) (by have ⟨⟨_, q1, q2, q3⟩, _, _, _⟩ := V2; simp [results, Try.results36, go_sem, q1, q2, q3]) rfl (HF0.out HF.out _ b1)
      · skip
        cases h3 : incB n ra
        · have HF : Hid (okTO n xs ra ca = false) := by simp [Hid, okTO, h3]
          have H0 := Lib.hid h0
          have H1 := Lib.hid h1
          have H2 := Lib.hid h2
          have H3 := Lib.hid h3
          clear h0 h1 h2 h3
          go_enter Try.func36, Try.ntmps36
          go_wp2_with fail
          refine (orGood_any _ _ _ _ _ (hx.below b0)).mono ?_
          rw [H0.out]
          rintro e w1 ⟨rfl, hb⟩
          have b1 := b0.trans (hb.mono b0.size)
          have V1 := V0.below hb
          have A1 := A0.below hb
          have ⟨zA, cA, dA⟩ := A1
          have ⟨⟨zV, cV, dV, eV⟩, fV, gV, iV⟩ := V1
          have b1s := b1.size
          clear hb
          go_wp2_with fail
          refine (l1In_any _ _ _ _).mono ?_
          rw [H1.out]
          rintro e w' ⟨rfl, rfl⟩
          go_wp2_with fail
          refine (l1In_any _ _ _ _).mono ?_
          rw [H2.out]
          rintro e w' ⟨rfl, rfl⟩
          go_wp2_with fail
          refine (l1Rising_any n b ra cb _ (hy.below b1)).mono ?_
          rw [H3.out]
          rintro e w' ⟨rfl, rfl⟩
          go_wp2_with fail
          have V2 := V1.set (.int .i64 0) (.int .i64 0) (.slice none 0 0)
          exact bodyPost_ret (v := .tuple #[.agg #[.int .i64 0, .int .i64 0, .slice none 0 0], .bool false]) (by have ⟨⟨_, q1, q2, q3⟩, _, _, _⟩ := V2; simp [results, Try.results36, go_sem, q1, q2, q3]) rfl (HF0.out HF.out _ b1)
        · skip
          cases h4 : incB n ca
          · have HF : Hid (okTO n xs ra ca = false) := by simp [Hid, okTO, h4]
            have H0 := Lib.hid h0
            have H1 := Lib.hid h1
            have H2 := Lib.hid h2
            have H3 := Lib.hid h3
            have H4 := Lib.hid h4
            clear h0 h1 h2 h3 h4
            go_enter Try.func36, Try.ntmps36
            go_wp2_with fail
            refine (orGood_any _ _ _ _ _ (hx.below b0)).mono ?_
            rw [H0.out]
            rintro e w1 ⟨rfl, hb⟩
            have b1 := b0.trans (hb.mono b0.size)
            have V1 := V0.below hb
            have A1 := A0.below hb
            have ⟨zA, cA, dA⟩ := A1
            have ⟨⟨zV, cV, dV, eV⟩, fV, gV, iV⟩ := V1
            have b1s := b1.size
            clear hb
            go_wp2_with fail
            refine (l1In_any _ _ _ _).mono ?_
            rw [H1.out]
            rintro e w' ⟨rfl, rfl⟩
            go_wp2_with fail
            refine (l1In_any _ _ _ _).mono ?_
            rw [H2.out]
            rintro e w' ⟨rfl, rfl⟩
            go_wp2_with fail
            refine (l1Rising_any n b ra cb _ (hy.below b1)).mono ?_
            rw [H3.out]
            rintro e w' ⟨rfl, rfl⟩
            go_wp2_with fail
            refine (l1Rising_any n d ca cd _ (hz.below b1)).mono ?_
            rw [H4.out]
            rintro e w' ⟨rfl, rfl⟩
            go_wp2_with fail
            have V2 := V1.set (.int .i64 0) (.int .i64 0) (.slice none 0 0)
            exact bodyPost_ret (v := .tuple #[.agg #[.int .i64 0, .int .i64 0, .slice none 0 0], .bool false]) (by have ⟨⟨_, q1, q2, q3⟩, _, _, _⟩ := V2; simp [results, Try.results36, go_sem, q1, q2, q3]) rfl (HF0.out HF.out _ b1)
          · skip
            have H0 := Lib.hid h0
            have H1 := Lib.hid h1
            have H2 := Lib.hid h2
            have H3 := Lib.hid h3
            have H4 := Lib.hid h4
            have hok : okTO n xs ra ca = true := by simp only [okTO, h0, h1, h2, h3, h4]; rfl
            have HP := Lib.hid (okTO_p hok)
            have HPR := Lib.hid (ord_rel (okTO_p hok).ord)
            have c6 : ca.length ≤ 6 := (okTO_p hok).c1
            have r6 : ra.length ≤ 6 := (okTO_p hok).r1
            have E1 : Hid (toR n xs ra ca = (ra.length : Int)) := by simp [Hid, toR, hok]
            have E2 : Hid (toC n xs ra ca = (ca.length : Int)) := by simp [Hid, toC, hok]
            have E3 : Hid (toL n xs ra ca = fmap (fun r => ((rowBits (toF xs ra ca r) ca.length : Nat) : Int)) ra.length) := by simp [Hid, toL, hok, tbL]
            have HOK := Lib.hid hok
            clear h0 h1 h2 h3 h4 hok
            go_enter Try.func36, Try.ntmps36
            go_wp2_with fail
            refine (orGood_any _ _ _ _ _ (hx.below b0)).mono ?_
            rw [H0.out]
            rintro e w1 ⟨rfl, hb⟩
            have b1 := b0.trans (hb.mono b0.size)
            have V1 := V0.below hb
            have A1 := A0.below hb
            have ⟨zA, cA, dA⟩ := A1
            have ⟨⟨zV, cV, dV, eV⟩, fV, gV, iV⟩ := V1
            have b1s := b1.size
            clear hb
            go_wp2_with fail
            refine (l1In_any _ _ _ _).mono ?_
            rw [H1.out]
            rintro e w' ⟨rfl, rfl⟩
            go_wp2_with fail
            refine (l1In_any _ _ _ _).mono ?_
            rw [H2.out]
            rintro e w' ⟨rfl, rfl⟩
            go_wp2_with fail
            refine (l1Rising_any n b ra cb _ (hy.below b1)).mono ?_
            rw [H3.out]
            rintro e w' ⟨rfl, rfl⟩
            go_wp2_with fail
            refine (l1Rising_any n d ca cd _ (hz.below b1)).mono ?_
            rw [H4.out]
            rintro e w' ⟨rfl, rfl⟩
            have bw1 : Below w1.heap.size w1 (w1.alloc (.cells #[.int .i64 (ra.length : Int), .int .i64 (ca.length : Int), .slice none 0 0] 27)) := (by repeat (first | exact Below.refl _ _ | assumption | refine Below.alloc ?_ (by first | exact Nat.le_refl _ | (simp only [World.size_alloc, World.size_setCell, World.size_drew]; omega) | omega) _ | refine Below.setCell ?_ (by first | exact Nat.le_refl _ | (simp only [World.size_alloc, World.size_setCell, World.size_drew]; omega) | omega) _ | refine Below.drew ?_))
            have U1 := Var3.new w1 (.int .i64 (ra.length : Int)) (.int .i64 (ca.length : Int)) (.slice none 0 0) 27
            obtain ⟨b8, hb8⟩ : ∃ b8, b8 = w1.heap.size := ⟨_, rfl⟩
            have HS := Lib.hid (And.intro (A1.below bw1) (And.intro (V1.below bw1) (And.intro U1 (b1.trans (bw1.mono b1s)))))
            rw [← hb8] at HS
            have hz8 : w.heap.size + 2 ≤ b8 := by omega
            clear bw1 U1 A1 V1 cV dV eV fV gV iV
            go_wp2_with fail
            rw [← hb8]
            clear hb8 cA dA
            go_loopw [53] (fun i wr => ∃ (k : Nat) (v : Value), k ≤ ra.length ∧ i = .int .i64 k ∧ OwnI wr (b8 + 1) v (fmap (fun r => ((rowBits (toF xs ra ca r) ca.length : Nat) : Int)) k) ∧ Box2 wr w.heap.size (.int .i64 n) (.slice a xs.length cap) ∧ Var3 wr (w.heap.size + 1) (.int .i64 0) (.int .i64 0) (.slice none 0 0) ∧ Var3 wr b8 (.int .i64 (ra.length : Int)) (.int .i64 (ca.length : Int)) v ∧ Below w.heap.size w wr) (fun i _ => ra.length - (intOf i).toNat)
            case atStart => exact ⟨0, .slice none 0 0, Nat.zero_le _, rfl, OwnI.nil _ _, HS.out.1, HS.out.2.1, HS.out.2.2.1, HS.out.2.2.2⟩
            case round =>
              obtain ⟨k, v, hk, rfl, hown, hA, hV, hU, hb⟩ := hrel
              obtain ⟨av, cv, ev⟩ := hown.form
              rw [fmap_len] at ev
              subst ev
              have hbs := hb.size
              have zU := hU.1.1
              have HO := Lib.hid hown
              have HA := Lib.hid hA
              have HV := Lib.hid hV
              have HU := Lib.hid hU
              have HB := Lib.hid hb
              by_cases hlt : k < ra.length
              · obtain ⟨b1', off1, rfl, hbl1, hc1⟩ := (hy.below hb).cell k hlt
                have ⟨i0, i1⟩ := HP.out.ri k hlt
                obtain ⟨i, hi⟩ := Int.eq_ofNat_of_zero_le i0
                have hil : i < xs.length := by have := HPR.out.len; omega
                have HTF : Hid (∀ q : Nat, toF xs ra ca k q = hasB (nth xs i) (nth ca q)) := fun q => by rw [toF, hi]; rfl
                rw [hi] at hc1
                obtain ⟨b3', off3, rfl, hbl3, hc3⟩ := (hx.below hb).cell i hil
                have p0 := HPR.out.pos i hil
                have p1 : nth xs i ≤ 9223372036854775807 := by have := HPR.out.small i hil; omega
                have k0 : (0 : Int) ≤ (i : Int) := by omega
                have k1 : (i : Int) < (xs.length : Int) := by omega
                obtain ⟨W1, hW1⟩ : ∃ x : World, x = wr := ⟨_, rfl⟩
                subst hW1
                clear hown hA hV hU hb hi
                go_wp2_with fail
                go_loopw [11, 59] (fun s i wq => ∃ q : Nat, q ≤ ca.length ∧ i = .int .i64 q ∧ s = .int .i64 ((rowBits (toF xs ra ca k) q : Nat) : Int) ∧ wq = W1) (fun _ i _ => ca.length - (intOf i).toNat)
                case atStart => exact ⟨0, Nat.zero_le _, rfl, rfl, rfl⟩
                case round =>
                  obtain ⟨q, hq, rfl, rfl, rfl⟩ := hrel
                  have ⟨zA, cA, dA⟩ := HA.out
                  by_cases hlt2 : q < ca.length
                  · have q0 : (0 : Int) ≤ (q : Int) := by omega
                    have q1 : (q : Int) < (ca.length : Int) := by omega
                    have q62 : (q : Int) < 62 := by omega
                    have ⟨j0, j1⟩ := HP.out.ci q hlt2
                    obtain ⟨b2, off2, rfl, hbl2, hc2⟩ := (hz.below HB.out).cell q hlt2
                    have hsm := rowBits_small (toF xs ra ca k) (k := q) (by omega)
                    have hor := Lib.hid (or_bit (b := rowBits (toF xs ra ca k) q) (k := q) (by omega) (by omega))
                    clear hsm
                    have hfe := HTF.out q
                    cases hin : hasB (nth xs i) (nth ca q)
                    · have HE : Hid (rowBits (toF xs ra ca k) (q+1) = rowBits (toF xs ra ca k) q) := by simp [Hid, rowBits, hfe, hin]
                      have HH := Lib.hid hin
                      clear hin hfe
                      go_wp2_with fail
                      refine (orHas_any _ _ _ p0 p1 j0).mono ?_
                      rw [HH.out]
                      rintro e w' ⟨rfl, rfl⟩
                      go_wp2_with fail
                      go_roundw
                      case rel => exact ⟨q + 1, by omega, by go_num, by rw [HE.out], trivial⟩
                      case measure => simp [intOf]; omega
                    · have HE : Hid (rowBits (toF xs ra ca k) (q+1) = rowBits (toF xs ra ca k) q ||| 2 ^ q) := by simp [Hid, rowBits, hfe, hin]
                      have HH := Lib.hid hin
                      clear hin hfe
                      go_wp2_with fail
                      refine (orHas_any _ _ _ p0 p1 j0).mono ?_
                      rw [HH.out]
                      rintro e w' ⟨rfl, rfl⟩
                      go_wp2_with fail
                      go_roundw
                      case rel => exact ⟨q + 1, by omega, by go_num, val_int (by rw [hor.out, HE.out]), trivial⟩
                      case measure => simp [intOf]; omega
                  · obtain rfl : q = ca.length := by omega
                    have ⟨⟨zU, cU, dU, eU⟩, fU, gU, iU⟩ := HU.out
                    have HN : Hid (fmap (fun r => ((rowBits (toF xs ra ca r) ca.length : Nat) : Int)) (k+1) = fmap (fun r => ((rowBits (toF xs ra ca r) ca.length : Nat) : Int)) k ++ [((rowBits (toF xs ra ca k) ca.length : Nat) : Int)]) := by rw [Hid, fmap_succ]
                    have h63 : (fmap (fun r => ((rowBits (toF xs ra ca r) ca.length : Nat) : Int)) k).length ≤ 1048576 := by rw [fmap_len]; omega
                    have hUl := HO.out.lt
                    go_wp2_with (at_builtin; refine push_at rfl _ _ rfl (z := ((rowBits (toF xs ra ca k) ca.length : Nat) : Int)) rfl HO.out rfl h63 (by omega) ?_)
                    intro v3 w3 o3 hg3 hat3
                    have b3 : Below w.heap.size w w3 := HB.out.trans (below_of_grown hg3 (fun c e => by have := (hUl c e).1; omega) hbs)
                    have A3 := HA.out.kept hg3 (ne_own (fun c e => by have := (hUl c e).1; omega))
                    have V3 := HV.out.kept hg3 (ne_own (fun c e => by have := (hUl c e).1; omega))
                    have U3 := HU.out.kept hg3 (ne_own (fun c e => by have := (hUl c e).1; omega))
                    obtain ⟨a3, c3, e3⟩ := o3.form
                    subst e3
                    rw [← HN.out, fmap_len] at o3
                    rw [show (fmap (fun r => ((rowBits (toF xs ra ca r) ca.length : Nat) : Int)) k ++ [((rowBits (toF xs ra ca k) ca.length : Nat) : Int)]).length = k + 1 by simp [fmap_len]]
                    have ⟨⟨zU3, cU3, dU3, eU3⟩, fU3, gU3, iU3⟩ := U3
                    have H9 := Lib.hid (And.intro (o3.setBelow (p := ⟨b8, 2, none⟩) (show b8 < b8 + 1 by omega) (.slice a3 (k+1) c3)) (And.intro (A3.set (p := ⟨b8, 2, none⟩) (.slice a3 (k+1) c3) (show w.heap.size ≠ b8 by omega)) (And.intro (V3.other (p := ⟨b8, 2, none⟩) (.slice a3 (k+1) c3) (show w.heap.size + 1 ≠ b8 by omega)) (And.intro (U3.set2 (.slice a3 (k+1) c3)) (b3.setCell (p := ⟨b8, 2, none⟩) (show w.heap.size ≤ b8 by omega) (.slice a3 (k+1) c3))))))
                    clear hg3 hat3 hUl o3 A3 V3 U3 b3 h63 cU dU eU fU gU iU cA dA
                    go_wp2_with fail
                    go_roundw
                    case rel => exact ⟨k + 1, _, by omega, by go_num, H9.out.1, H9.out.2.1, H9.out.2.2.1, H9.out.2.2.2.1, H9.out.2.2.2.2⟩
                    case measure => simp [intOf]; omega
              · have HKE : Hid (k = ra.length) := by show k = ra.length; omega
                have ⟨⟨zU, cU, dU, eU⟩, fU, gU, iU⟩ := hU
                have ⟨⟨zV, cV, dV, eV⟩, fV, gV, iV⟩ := hV
                clear hown hA hV hU hb
                go_wp2_with fail
                have V3 := HV.out.set (.int .i64 (ra.length : Int)) (.int .i64 (ca.length : Int)) (.slice av k cv)
                refine bodyPost_ret (v := .tuple #[.agg #[.int .i64 (ra.length : Int), .int .i64 (ca.length : Int), .slice av k cv], .bool true]) (by have ⟨⟨_, q1, q2, q3⟩, _, _, _⟩ := V3; simp [results, Try.results36, go_sem, q1, q2, q3]) rfl ?_
                refine ⟨av, cv, by rw [E1.out, E2.out, E3.out, fmap_len, HOK.out, HKE.out], ?_, ((HB.out.setCell (p := ⟨w.heap.size + 1, 0, none⟩) (by simp) _).setCell (p := ⟨w.heap.size + 1, 1, none⟩) (by simp) _).setCell (p := ⟨w.heap.size + 1, 2, none⟩) (by simp) _⟩
                rw [E3.out, fmap_len, ← HKE.out]
                exact (((HO.out.setBelow (p := ⟨w.heap.size + 1, 0, none⟩) (show w.heap.size + 1 < b8 + 1 by omega) _).setBelow (p := ⟨w.heap.size + 1, 1, none⟩) (show w.heap.size + 1 < b8 + 1 by omega) _).setBelow (p := ⟨w.heap.size + 1, 2, none⟩) (show w.heap.size + 1 < b8 + 1 by omega) _).mono (by omega)

theorem hasElement_any (s i : Int) (w : World) (h0 : 0 ≤ s) (h1 : s ≤ 9223372036854775807) (hi : 0 ≤ i) :
    Calls Try.prog 73 #[.int .i64 s, .int .i64 i] w fun e w' => e = .returned (.bool (hasB s i)) ∧ w = w' := by
  have H := Lib.hid (has_and h0 h1 hi)
  go_enter Try.func73, Try.ntmps73
  go_wp2
  go_ret
  exact ⟨ret_bool H.out, rfl⟩

theorem aboveAny_any (n : Int) (a : Option Addr) (xs : List Int) (cap : Nat) (s : Int) (w : World) (hx : Rd w a xs) (hr : RelP n xs) (h0 : 0 ≤ s) (h1 : s ≤ 9223372036854775807) :
    Calls Try.prog 92 #[.agg #[.int .i64 n, .slice a xs.length cap], .int .i64 s] w fun e w' => e = .returned (.int .i64 (aboveTo xs s xs.length)) ∧ Below w.heap.size w w' := by
  have hx1 := hx.alloc (.cells #[.int .i64 n, .slice a xs.length cap] 46)
  obtain rfl : n = (xs.length : Int) := hr.len.symm
  have hn : xs.length ≤ 10 := by have := hr.n1; omega
  go_enter Try.func92, Try.ntmps92
  go_wp2_with fail
  go_loop [5, 9] (fun s' i' => ∃ k : Nat, k ≤ xs.length ∧ i' = .int .i64 k ∧ s' = .int .i64 (aboveTo xs s k)) (fun _ i => xs.length - (intOf i).toNat)
  case atStart => exact ⟨0, Nat.zero_le _, rfl, rfl⟩
  case round =>
    obtain ⟨k, hk, rfl, rfl⟩ := hrel
    by_cases hlt : k < xs.length
    · obtain ⟨b, off, rfl, hbl, hc⟩ := hx1.cell k hlt
      obtain ⟨b', off', e', hbl', hc'⟩ := hx.cell k hlt
      simp only [Option.some.injEq, Addr.mk.injEq, and_true] at e'
      obtain ⟨rfl, rfl⟩ := e'
      have hpk := hr.pos k hlt
      have hsk := hr.small k hlt
      have hab := aboveTo_lt hr s k hk
      have hor := Lib.hid (or_i (a := (aboveTo xs s k : Nat)) (b := nth xs k) (by omega) (by omega) hpk (by omega))
      clear hab
      cases hin : hasB s k
      · go_wp2_with (go_at_call 73; refine (hasElement_any _ _ _ h0 h1 (by omega)).mono ?_; rintro e w' ⟨rfl, rfl⟩)
        go_round
        case rel => exact ⟨k + 1, by omega, by go_num, by simp [aboveTo, hin]⟩
        case measure => simp [intOf]; omega
      · go_wp2_with (go_at_call 73; refine (hasElement_any _ _ _ h0 h1 (by omega)).mono ?_; rintro e w' ⟨rfl, rfl⟩)
        go_round
        case rel => exact ⟨k + 1, by omega, by go_num, val_int (by rw [hor.out]; simp [aboveTo, hin])⟩
        case measure => simp [intOf]; omega
    · obtain rfl : k = xs.length := by omega
      go_wp2_with fail
      go_ret
      exact ⟨rfl, (by repeat (first | exact Below.refl _ _ | assumption | refine Below.alloc ?_ (by first | exact Nat.le_refl _ | (simp only [World.size_alloc, World.size_setCell, World.size_drew]; omega) | omega) _ | refine Below.setCell ?_ (by first | exact Nat.le_refl _ | (simp only [World.size_alloc, World.size_setCell, World.size_drew]; omega) | omega) _ | refine Below.drew ?_))⟩

theorem fullSet_any (n : Int) (w : World) (h0 : 0 ≤ n) (h1 : n ≤ 10) :
    Calls Try.prog 102 #[.int .i64 n] w fun e w' => e = .returned (.int .i64 (2 ^ n.toNat - 1)) ∧ w = w' := by
  have hf := Lib.hid (full_eq h0 h1)
  go_enter Try.func102, Try.ntmps102
  go_wp2
  go_ret
  exact ⟨ret_int hf.out, rfl⟩

theorem isSet_any (s n : Int) (w : World) (h0' : 0 ≤ n) (h1' : n ≤ 10) :
    Calls Try.prog 89 #[.int .i64 s, .int .i64 n] w fun e w' => e = .returned (.bool (inB s 0 (2 ^ n.toNat - 1))) ∧ w = w' := by
  by_cases h0 : 0 ≤ s
  · by_cases h1 : s ≤ 2 ^ n.toNat - 1
    · have hf := Lib.hid (inB_iff.2 ⟨h0, h1⟩)
      go_enter Try.func89, Try.ntmps89
      go_wp2_with (go_at_call 102; refine (fullSet_any _ _ h0' h1').mono ?_; rintro e w' ⟨rfl, rfl⟩)
      go_ret
      exact ⟨ret_bool (by rw [hf.out]; try simp [h1]), rfl⟩
    · have hf := Lib.hid (inB_no (lo := 0).2 (.inr (show 2 ^ n.toNat - 1 < s by omega)))
      go_enter Try.func89, Try.ntmps89
      go_wp2_with (go_at_call 102; refine (fullSet_any _ _ h0' h1').mono ?_; rintro e w' ⟨rfl, rfl⟩)
      go_ret
      exact ⟨ret_bool (by rw [hf.out]; try simp [h1]), rfl⟩
  · have hf := Lib.hid (inB_no (hi := 2 ^ n.toNat - 1).2 (.inl (show s < 0 by omega)))
    go_enter Try.func89, Try.ntmps89
    go_wp2_with fail
    go_ret
    exact ⟨ret_bool (by rw [hf.out]; try simp [h1]), rfl⟩

theorem areSets_any (a : Option Addr) (xs : List Int) (cap : Nat) (n : Int) (w : World) (hx : Rd w a xs) (h0' : 0 ≤ n) (h1' : n ≤ 10) :
    Calls Try.prog 55 #[.slice a xs.length cap, .int .i64 n] w fun e w' => e = .returned (.bool (allB xs 0 (2 ^ n.toNat - 1))) ∧ w = w' := by
  have hlen := hx.len
  go_enter Try.func55, Try.ntmps55
  go_wp2_with fail
  go_loop [9] (fun i => ∃ k : Nat, k ≤ xs.length ∧ i = .int .i64 k ∧ allB (xs.take k) 0 (2 ^ n.toNat - 1) = true) (fun i => xs.length - (intOf i).toNat)
  case atStart => exact ⟨0, Nat.zero_le _, rfl, rfl⟩
  case round =>
    obtain ⟨k, hk, rfl, hall⟩ := hrel
    by_cases hlt : k < xs.length
    · obtain ⟨b, off, rfl, hbl, hc⟩ := hx.cell k hlt
      cases hin : inB (nth xs k) 0 (2 ^ n.toNat - 1)
      · have hf := Lib.hid (allB_false hlt hin)
        go_wp2_with (go_at_call 89; refine (isSet_any _ _ _ h0' h1').mono ?_; rintro e w' ⟨rfl, rfl⟩)
        go_ret
        exact ⟨ret_bool hf.out.symm, rfl⟩
      · go_wp2_with (go_at_call 89; refine (isSet_any _ _ _ h0' h1').mono ?_; rintro e w' ⟨rfl, rfl⟩)
        go_round
        case rel => exact ⟨k + 1, by omega, by go_num, by rw [allB_take _ _ _ _ hlt, hall, hin]; rfl⟩
        case measure => simp [intOf]; omega
    · go_wp2_with fail
      go_ret
      exact ⟨ret_bool (by rw [← hall, List.take_of_length_le (by omega)]), rfl⟩

theorem iIsRelation_any (n : Int) (a : Option Addr) (xs : List Int) (cap : Nat) (w : World) (_hn : -9223372036854775808 ≤ n ∧ n ≤ 9223372036854775807) (hx : Rd w a xs) :
    Calls Try.prog 91 #[.agg #[.int .i64 n, .slice a xs.length cap]] w fun e w' => e = .returned (.bool (relB n xs)) ∧ Below w.heap.size w w' := by
  have hx1 := hx.alloc (.cells #[.int .i64 n, .slice a xs.length cap] 46)
  have hlen := hx.len
  by_cases h0 : 0 ≤ n
  · by_cases h1 : n ≤ 10
    · cases h2 : ((xs.length : Int) == n)
      · have HR : Hid (relB n xs = false) := by
          have : ¬ (xs.length : Int) = n := by simpa using h2
          simp [Hid, relB, this]
        go_enter Try.func91, Try.ntmps91
        go_wp2_with fail
        go_ret
        exact ⟨ret_bool HR.out.symm, (by repeat (first | exact Below.refl _ _ | assumption | refine Below.alloc ?_ (by first | exact Nat.le_refl _ | (simp only [World.size_alloc, World.size_setCell, World.size_drew]; omega) | omega) _ | refine Below.setCell ?_ (by first | exact Nat.le_refl _ | (simp only [World.size_alloc, World.size_setCell, World.size_drew]; omega) | omega) _ | refine Below.drew ?_))⟩
      · have HR : Hid (relB n xs = allB xs 0 (2 ^ n.toNat - 1)) := by
          have : (xs.length : Int) = n := by simpa using h2
          simp [Hid, relB, inB, h0, h1, this]
        go_enter Try.func91, Try.ntmps91
        go_wp2_with fail
        refine (areSets_any _ _ _ _ _ hx1 h0 h1).mono ?_
        rintro e w' ⟨rfl, rfl⟩
        go_wp2_with fail
        go_ret
        exact ⟨ret_bool HR.out.symm, (by repeat (first | exact Below.refl _ _ | assumption | refine Below.alloc ?_ (by first | exact Nat.le_refl _ | (simp only [World.size_alloc, World.size_setCell, World.size_drew]; omega) | omega) _ | refine Below.setCell ?_ (by first | exact Nat.le_refl _ | (simp only [World.size_alloc, World.size_setCell, World.size_drew]; omega) | omega) _ | refine Below.drew ?_))⟩
    · have HR : Hid (relB n xs = false) := by simp [Hid, relB, inB]; omega
      go_enter Try.func91, Try.ntmps91
      go_wp2_with fail
      go_ret
      exact ⟨ret_bool HR.out.symm, (by repeat (first | exact Below.refl _ _ | assumption | refine Below.alloc ?_ (by first | exact Nat.le_refl _ | (simp only [World.size_alloc, World.size_setCell, World.size_drew]; omega) | omega) _ | refine Below.setCell ?_ (by first | exact Nat.le_refl _ | (simp only [World.size_alloc, World.size_setCell, World.size_drew]; omega) | omega) _ | refine Below.drew ?_))⟩
  · have HR : Hid (relB n xs = false) := by simp [Hid, relB, inB]; omega
    go_enter Try.func91, Try.ntmps91
    go_wp2_with fail
    go_ret
    exact ⟨ret_bool HR.out.symm, (by repeat (first | exact Below.refl _ _ | assumption | refine Below.alloc ?_ (by first | exact Nat.le_refl _ | (simp only [World.size_alloc, World.size_setCell, World.size_drew]; omega) | omega) _ | refine Below.setCell ?_ (by first | exact Nat.le_refl _ | (simp only [World.size_alloc, World.size_setCell, World.size_drew]; omega) | omega) _ | refine Below.drew ?_))⟩

theorem iIsOrder_any (n : Int) (a : Option Addr) (xs : List Int) (cap : Nat) (w : World) (hn : -9223372036854775808 ≤ n ∧ n ≤ 9223372036854775807) (hx : Rd w a xs) :
    Calls Try.prog 70 #[.agg #[.int .i64 n, .slice a xs.length cap]] w fun e w' => e = .returned (.bool (ordB n xs)) ∧ Below w.heap.size w w' := by
  have hx1 := hx.alloc (.cells #[.int .i64 n, .slice a xs.length cap] 46)
  have hlen := hx.len
  cases hr : relB n xs
  · have HR : Hid (ordB n xs = false) := by simp [Hid, ordB, hr]
    go_enter Try.func70, Try.ntmps70
    go_wp2_with fail
    refine (iIsRelation_any _ _ _ _ _ hn hx1).mono ?_
    rintro e w1 ⟨rfl, hb1⟩
    go_wp2_with fail
    go_ret
    exact ⟨ret_bool HR.out.symm, Below.trans (by repeat (first | exact Below.refl _ _ | assumption | refine Below.alloc ?_ (by first | exact Nat.le_refl _ | (simp only [World.size_alloc, World.size_setCell, World.size_drew]; omega) | omega) _ | refine Below.setCell ?_ (by first | exact Nat.le_refl _ | (simp only [World.size_alloc, World.size_setCell, World.size_drew]; omega) | omega) _ | refine Below.drew ?_)) (hb1.mono (by first | (simp only [World.size_alloc, World.size_setCell, World.size_drew]; omega) | omega))⟩
  · have hp := relB_p hr
    go_enter Try.func70, Try.ntmps70
    go_wp2_with fail
    refine (iIsRelation_any _ _ _ _ _ hn hx1).mono ?_
    rintro e w1 ⟨rfl, hb1⟩
    have B1 := (Box2.new w _ _ _).below hb1
    have ⟨z1, c1, d1⟩ := B1
    have bw1 : Below w.heap.size w w1 := Below.trans (by repeat (first | exact Below.refl _ _ | assumption | refine Below.alloc ?_ (by first | exact Nat.le_refl _ | (simp only [World.size_alloc, World.size_setCell, World.size_drew]; omega) | omega) _ | refine Below.setCell ?_ (by first | exact Nat.le_refl _ | (simp only [World.size_alloc, World.size_setCell, World.size_drew]; omega) | omega) _ | refine Below.drew ?_)) (hb1.mono (by first | (simp only [World.size_alloc, World.size_setCell, World.size_drew]; omega) | omega))
    have HR := Lib.hid hr
    clear hb1
    go_wp2_with fail
    clear hr
    go_loopw [11] (fun i wr => ∃ k : Nat, k ≤ xs.length ∧ i = .int .i64 k ∧ (∀ j, j < k → okAtB xs j = true) ∧ Below w1.heap.size w1 wr) (fun i _ => xs.length - (intOf i).toNat)
    case atStart => exact ⟨0, Nat.zero_le _, rfl, fun j hj => by omega, Below.refl _ _⟩
    case round =>
      obtain ⟨k, hk, rfl, hall, hb⟩ := hrel
      have ⟨zr, cr, dr⟩ := B1.below hb
      have bwr := bw1.trans (hb.mono bw1.size)
      have HA := Lib.hid hall
      clear hall c1 d1
      by_cases hlt : k < xs.length
      · obtain ⟨b, off, rfl, hbl, hc⟩ := (hx.below bwr).cell k hlt
        have hpk := hp.pos k hlt
        have hsk := hp.small k hlt
        have hsk' : nth xs k ≤ 9223372036854775807 := by omega
        cases hin : hasB (nth xs k) k
        · have hab := aboveTo_lt hp (nth xs k) xs.length (Nat.le_refl _)
          have hsub := sub_i (a := (aboveTo xs (nth xs k) xs.length : Nat)) (b := nth xs k) (by omega) (by omega) hpk (by omega)
          have hok := okAtB_above hin
          rw [Int.toNat_natCast] at hsub
          cases hok2 : okAtB xs k
          · rw [hok2] at hok
            have hne : (bits BinOp.andNot IntKind.i64 ((aboveTo xs (nth xs k) xs.length : Nat) : Int) (nth xs k) != 0) = true := by
              rw [hsub]
              simpa using hok.symm
            have HN := Lib.hid (ordB_no (n := n) hlt hok2)
            clear hok2 hok hsub hab
            go_wp2_with fail
            refine (hasElement_any _ _ _ hpk hsk' (by omega)).mono ?_
            rintro e w' ⟨rfl, rfl⟩
            go_wp2_with fail
            refine (aboveAny_any _ _ _ _ _ _ (hx.below bwr) hp hpk hsk').mono ?_
            rintro e w2 ⟨rfl, hb2⟩
            go_wp2_with fail
            go_ret
            exact ⟨ret_bool HN.out.symm, bwr.trans (hb2.mono bwr.size)⟩
          · rw [hok2] at hok
            have hne : (bits BinOp.andNot IntKind.i64 ((aboveTo xs (nth xs k) xs.length : Nat) : Int) (nth xs k) != 0) = false := by
              rw [hsub]
              simpa using hok.symm
            have HN := Lib.hid hok2
            clear hok2 hok hsub hab
            go_wp2_with fail
            refine (hasElement_any _ _ _ hpk hsk' (by omega)).mono ?_
            rintro e w' ⟨rfl, rfl⟩
            go_wp2_with fail
            refine (aboveAny_any _ _ _ _ _ _ (hx.below bwr) hp hpk hsk').mono ?_
            rintro e w2 ⟨rfl, hb2⟩
            go_wp2_with fail
            go_roundw
            case rel =>
              refine ⟨k + 1, by omega, by go_num, fun j hj => ?_, hb.trans (hb2.mono hb.size)⟩
              by_cases e : j = k
              · rw [e]; exact HN.out
              · exact HA.out j (by omega)
            case measure => simp [intOf]; omega
        · have HN := Lib.hid (ordB_no (n := n) hlt (okAtB_has hin))
          go_wp2_with fail
          refine (hasElement_any _ _ _ hpk hsk' (by omega)).mono ?_
          rintro e w' ⟨rfl, rfl⟩
          go_wp2_with fail
          go_ret
          exact ⟨ret_bool HN.out.symm, bwr⟩
      · obtain rfl : k = xs.length := by omega
        go_wp2_with fail
        go_ret
        exact ⟨ret_bool (ordB_iff.2 ⟨HR.out, HA.out⟩).symm, bwr⟩

theorem isShape_any (r c : Int) (w : World) :
    Calls Try.prog 54 #[.int .i64 r, .int .i64 c] w fun e w' => e = .returned (.bool (inB r 1 6 && inB c 1 6)) ∧ w = w' := by
  by_cases h0 : 1 ≤ r
  · by_cases h1 : r ≤ 6
    · by_cases h2 : 1 ≤ c
      all_goals
        go_enter Try.func54, Try.ntmps54
        go_wp2
        go_ret
        exact ⟨ret_bool (by simp [inB, h0, h1, h2] <;> omega), rfl⟩
    · go_enter Try.func54, Try.ntmps54
      go_wp2
      go_ret
      exact ⟨ret_bool (by simp [inB, h0, h1] <;> omega), rfl⟩
  · go_enter Try.func54, Try.ntmps54
    go_wp2
    go_ret
    exact ⟨ret_bool (by simp [inB, h0] <;> omega), rfl⟩

theorem isElement_any (n : Int) (a : Option Addr) (len cap : Nat) (i : Int) (w : World) :
    Calls Try.prog 93 #[.agg #[.int .i64 n, .slice a len cap], .int .i64 i] w fun e w' => e = .returned (.bool (elemB i n)) ∧ Below w.heap.size w w' := by
  by_cases h0 : 0 ≤ i
  · by_cases h1 : i < n
    · have H := Lib.hid (elemB_iff.2 ⟨h0, h1⟩)
      go_enter Try.func93, Try.ntmps93
      go_wp2
      go_ret
      exact ⟨ret_bool (by rw [H.out]; try simp [h1]), (by repeat (first | exact Below.refl _ _ | assumption | refine Below.alloc ?_ (by first | exact Nat.le_refl _ | (simp only [World.size_alloc, World.size_setCell, World.size_drew]; omega) | omega) _ | refine Below.setCell ?_ (by first | exact Nat.le_refl _ | (simp only [World.size_alloc, World.size_setCell, World.size_drew]; omega) | omega) _ | refine Below.drew ?_))⟩
    · have H := Lib.hid (elemB_no.2 (.inr (show n ≤ i by omega)))
      go_enter Try.func93, Try.ntmps93
      go_wp2
      go_ret
      exact ⟨ret_bool (by rw [H.out]; try simp [h1]), (by repeat (first | exact Below.refl _ _ | assumption | refine Below.alloc ?_ (by first | exact Nat.le_refl _ | (simp only [World.size_alloc, World.size_setCell, World.size_drew]; omega) | omega) _ | refine Below.setCell ?_ (by first | exact Nat.le_refl _ | (simp only [World.size_alloc, World.size_setCell, World.size_drew]; omega) | omega) _ | refine Below.drew ?_))⟩
  · have H := Lib.hid (elemB_no (n := n).2 (.inl (show i < 0 by omega)))
    go_enter Try.func93, Try.ntmps93
    go_wp2
    go_ret
    exact ⟨ret_bool (by rw [H.out]), (by repeat (first | exact Below.refl _ _ | assumption | refine Below.alloc ?_ (by first | exact Nat.le_refl _ | (simp only [World.size_alloc, World.size_setCell, World.size_drew]; omega) | omega) _ | refine Below.setCell ?_ (by first | exact Nat.le_refl _ | (simp only [World.size_alloc, World.size_setCell, World.size_drew]; omega) | omega) _ | refine Below.drew ?_))⟩

theorem areInc_any (n : Int) (a : Option Addr) (len cap : Nat) (a1 : Option Addr) (es : List Int) (cap1 : Nat) (w : World) (hn : n ≤ 9223372036854775807) (hx : Rd w a1 es) :
    Calls Try.prog 71 #[.agg #[.int .i64 n, .slice a len cap], .slice a1 es.length cap1] w fun e w' => e = .returned (.bool (incB n es)) ∧ Below w.heap.size w w' := by
  have hlen := hx.len
  go_enter Try.func71, Try.ntmps71
  go_wp2_with fail
  go_loopw [5, 10] (fun l i wr => ∃ k : Nat, k ≤ es.length ∧ i = .int .i64 k ∧ l = .int .i64 (if k = 0 then 0 else nth es (k-1) + 1) ∧ (∀ j, j < k → okI n es j = true) ∧ Below w.heap.size w wr ∧ Box2 wr w.heap.size (.int .i64 n) (.slice a len cap)) (fun _ i _ => es.length - (intOf i).toNat)
  case atStart => exact ⟨0, Nat.zero_le _, rfl, rfl, fun j hj => by omega, (by repeat (first | exact Below.refl _ _ | assumption | refine Below.alloc ?_ (by first | exact Nat.le_refl _ | (simp only [World.size_alloc, World.size_setCell, World.size_drew]; omega) | omega) _ | refine Below.setCell ?_ (by first | exact Nat.le_refl _ | (simp only [World.size_alloc, World.size_setCell, World.size_drew]; omega) | omega) _ | refine Below.drew ?_)), Box2.new _ _ _ _⟩
  case round =>
    obtain ⟨k, hk, rfl, rfl, hall, hb, hB⟩ := hrel
    have HA := Lib.hid hall
    have ⟨zB, cB, dB⟩ := hB
    obtain ⟨l, hl⟩ : ∃ l, l = (if k = 0 then 0 else nth es (k-1) + 1) := ⟨_, rfl⟩
    have HL := Lib.hid hl
    rw [← hl]
    clear hl
    by_cases hlt : k < es.length
    · obtain ⟨b, off, rfl, hbl, hc⟩ := (hx.below hb).cell k hlt
      have hprev : k ≠ 0 → nth es (k-1) < n := fun h0 => (okI_elem (hall (k-1) (by omega))).2
      have hprev0 : k ≠ 0 → 0 ≤ nth es (k-1) := fun h0 => (okI_elem (hall (k-1) (by omega))).1
      clear hall
      by_cases hll : nth es k < l
      · have hno : okI n es k = false := by
          have hl := HL.out
          split at hl
          · have : elemB (nth es k) n = false := elemB_no.2 (.inl (by omega))
            simp [okI, this]
          · rename_i h0
            simp [okI, h0]
            intro _
            omega
        have HN := Lib.hid (incB_no hlt hno)
        clear hno hprev hprev0
        go_wp2_with fail
        go_ret
        exact ⟨ret_bool HN.out.symm, hb⟩
      · cases hel : elemB (nth es k) n
        · have HN := Lib.hid (incB_no hlt (show okI n es k = false by simp [okI, hel]))
          clear hprev hprev0
          go_wp2_with fail
          refine (isElement_any _ _ _ _ _ _).mono ?_
          rintro e w2 ⟨rfl, hb2⟩
          go_wp2_with fail
          go_ret
          exact ⟨ret_bool HN.out.symm, hb.trans (hb2.mono hb.size)⟩
        · have hyes : okI n es k = true := by
            have hl := HL.out
            simp only [okI, hel, Bool.true_and]
            by_cases h0 : k = 0
            · simp [h0]
            · rw [if_neg h0] at hl
              simp [h0]
              omega
          have HN := Lib.hid hyes
          have h1 := (elemB_iff.1 hel).1
          have h2 := (elemB_iff.1 hel).2
          clear hyes hprev hprev0
          go_wp2_with fail
          refine (isElement_any _ _ _ _ _ _).mono ?_
          rintro e w2 ⟨rfl, hb2⟩
          go_wp2_with fail
          go_roundw
          case rel =>
            refine ⟨k + 1, by omega, by go_num, by simp, fun j hj => ?_, hb.trans (hb2.mono hb.size), hB.below hb2⟩
            by_cases e : j = k
            · rw [e]; exact HN.out
            · exact HA.out j (by omega)
          case measure => simp [intOf]; omega
    · obtain rfl : k = es.length := by omega
      have HN := Lib.hid (incB_iff.2 HA.out)
      clear hall
      go_wp2_with fail
      go_ret
      exact ⟨ret_bool HN.out.symm, hb⟩

theorem hasElement_is {s i : Int} {b : Bool} (h0 : 0 ≤ s) (h1 : s ≤ 9223372036854775807) (hi : 0 ≤ i) (h : hasB s i = b) (w : World) (m : Nat) :
    Calls Try.prog 73 #[.int .i64 s, .int .i64 i] (w.drewN m) fun e w' => e = .returned (.bool b) ∧ ∃ k, w' = w.drewN k :=
  Calls.quiet_of_same ((hasElement_any s i (w.drewN m) h0 h1 hi).mono (fun e w' hh => ⟨by rw [← h]; exact hh.1, hh.2.symm⟩))

theorem ret_ii {a b c d : Int} (h : a = b) (h2 : c = d) : Ending.returned (.tuple #[.int .i64 a, .int .i64 c]) = .returned (.tuple #[.int .i64 b, .int .i64 d]) := by rw [h, h2]
theorem tabPlace_any (n : Int) (C : Nat) (a : Option Addr) (len cap : Nat) (k : Nat) (w : World) (h0 : 0 < C) (h1 : C ≤ 6) (hk : k ≤ 36) :
    Calls Try.prog 58 #[.agg #[.int .i64 n, .int .i64 (C : Int), .slice a len cap], .int .i64 (k : Int)] w fun e w' => e = .returned (.tuple #[.int .i64 ((k / C : Nat) : Int), .int .i64 ((k % C : Nat) : Int)]) ∧ Below w.heap.size w w' := by
  have hle : k / C ≤ k := Nat.div_le_self _ _
  have hq : wrap64 ((k : Int) / (C : Int)) = ((k / C : Nat) : Int) := by
    rw [show (k : Int) / (C : Int) = ((k / C : Nat) : Int) from rfl]
    generalize k / C = q at *
    exact IntWalk.wrap64_in _ ⟨by omega, by omega⟩
  go_enter Try.func58, Try.ntmps58
  go_wp2_with fail
  go_quiet (fail)
  go_wp2_with fail
  go_ret2
  exact ⟨ret_ii hq rfl, (Below.refl _ _).alloc (Nat.le_refl _) _ |>.trans (Joins.below_draws _ _ _)⟩

/-- a row of m integers of which the first k are filled, f 0 .. -/
def rowF (f : Nat → Int) (m k : Nat) : List Int := fmap f k ++ List.replicate (m - k) 0
theorem rowF_len (f : Nat → Int) {m k : Nat} (h : k ≤ m) : (rowF f m k).length = m := by simp [rowF, fmap_len]; omega
theorem rowF_set (f : Nat → Int) {m k : Nat} (h : k < m) : (rowF f m k).set k (f k) = rowF f m (k+1) := by
  apply List.ext_getElem?
  intro j
  rw [List.getElem?_set]
  by_cases hj : k = j
  · subst hj
    rw [if_pos rfl, if_pos (by rw [rowF_len f (by omega)]; exact h), rowF, List.getElem?_append_left (by rw [fmap_len]; omega)]
    simp [fmap]
  · simp only [hj, if_false, rowF, List.getElem?_append, fmap_len, List.getElem?_replicate]
    by_cases h1 : j < k
    · have h2 : j < k + 1 := by omega
      simp [h1, h2, fmap]
    · have h2 : ¬ j < k + 1 := by omega
      have h3 : j - k < m - k ↔ j - (k+1) < m - (k+1) := by omega
      simp [h1, h2, h3]
theorem rowF_zero (f : Nat → Int) {m k : Nat} (h : k < m) : (rowF f m k).set k 0 = rowF f m k := by
  apply List.ext_getElem?
  intro j
  rw [List.getElem?_set]
  by_cases hj : k = j
  · subst hj
    rw [if_pos rfl, if_pos (by rw [rowF_len f (by omega)]; exact h), rowF, List.getElem?_append_right (by rw [fmap_len]; omega)]
    rw [fmap_len, Nat.sub_self, List.getElem?_replicate, if_pos (by omega)]
  · simp [hj]
theorem rowF_end (f : Nat → Int) (m : Nat) : rowF f m m = fmap f m := by simp [rowF]
theorem made_row {w1 : World} {B : Nat} {v : Value} {m : Nat} (f : Nat → Int) (h : w1.ownsRow B 3 1 v m (madeCells (Value.int .i64 0).cells (m * 1)).toList) : OwnI w1 B v (rowF f m 0) := by
  unfold OwnI
  rw [rowF_len f (Nat.zero_le _)]
  simpa [Value.cells, toList_madeCells_one, fmap, rowF] using h

/-- a function value that tells for each row and each column -/
def TellsRC (w : World) (fn : Nat) (caps : Array Value) (F : Nat → Nat → Bool) (R C : Nat) : Prop :=
  ∀ (r c : Nat) (w' : World), r < R → c < C → Below w.heap.size w w' → Calls Try.prog fn (#[.int .i64 (r : Int), .int .i64 (c : Int)] ++ caps) w' fun e w'' => e = .returned (.bool (F r c)) ∧ Below w'.heap.size w' w''
set_option maxRecDepth 100000 in
theorem tableBy_any (R C : Nat) (fn : Nat) (caps : Array Value) (F : Nat → Nat → Bool) (w : World) (hR : 1 ≤ R) (hR6 : R ≤ 6) (hC : 1 ≤ C) (hC6 : C ≤ 6) (hE : ∀ args w, (callFunc fn args).run Try.prog w = .ok (.enter fn args) w) (hF : TellsRC w fn caps F R C) :
    Calls Try.prog 62 #[.int .i64 (R : Int), .int .i64 (C : Int), .func (.func fn) #[] caps] w fun e w' => ∃ a cap, e = .returned (.agg #[.int .i64 (R : Int), .int .i64 (C : Int), .slice a R cap]) ∧ OwnI w' w.heap.size (.slice a R cap) (tbL F R C) ∧ Below w.heap.size w w' := by
  obtain ⟨i0, hi, hz0, hz1, hz2⟩ := info_parts infoInt
  have HF := Lib.hid hF
  clear hF
  go_enter Try.func62, Try.ntmps62
  have R1 : Var3 (w.alloc (.cells #[.int .i64 0, .int .i64 0, .slice none 0 0] 27)) w.heap.size (.int .i64 0) (.int .i64 0) (.slice none 0 0) := Var3.new w _ _ _ _
  have bw1 : Below w.heap.size w (w.alloc (.cells #[.int .i64 0, .int .i64 0, .slice none 0 0] 27)) := (by repeat (first | exact Below.refl _ _ | assumption | refine Below.alloc ?_ (by first | exact Nat.le_refl _ | (simp only [World.size_alloc, World.size_setCell, World.size_drew]; omega) | omega) _ | refine Below.setCell ?_ (by first | exact Nat.le_refl _ | (simp only [World.size_alloc, World.size_setCell, World.size_drew]; omega) | omega) _ | refine Below.drew ?_))
  go_wp2_with (at_make; refine wpList_make_full _ rfl (.tmp 13) (.tmp 13) 22 rfl (w.heap.size + 1) 3 i0 (.int .i64 0) 1 Try.underlying22 hi hz0 hz1 .i64 .i64 _ _ R rfl rfl rfl rfl (by rw [hz2]; omega) (by unfold maxLen; omega) (by simp) ?_; intro w2 hown hgrow)
  have R2 := R1.kept hgrow (by simp)
  have hb2 : Below w.heap.size w w2 := bw1.grown hgrow (by simp) (fun k h => by cases h)
  have hown0 : OwnI w2 (w.heap.size + 1) (.slice (some ⟨w.heap.size + 1, 0, none⟩) R R) (tbAt F R C 0) := by
    have := made_row (fun _ => 0) hown
    rw [tbAt_zero]
    simpa [rowF, fmap] using this
  have hz2' : w.heap.size + 2 ≤ w2.heap.size := by have := (hown0.lt _ rfl).2; simp only at this; omega
  have HR := Lib.hid hown0
  have HB := Lib.hid hb2
  have HV := Lib.hid R2
  clear hown hgrow R1 R2 bw1 hown0 hb2
  obtain ⟨D, hD⟩ : ∃ D, D = R * C := ⟨_, rfl⟩
  have hD36 : D ≤ 36 := by rw [hD]; exact Nat.mul_le_mul hR6 hC6
  have hmul : wrap64 ((R : Int) * (C : Int)) = (D : Int) := by
    rw [← Int.natCast_mul, ← hD]
    exact IntWalk.wrap64_in _ ⟨by omega, by omega⟩
  have HD := Lib.hid hD
  clear hD
  obtain ⟨g, hg⟩ : ∃ g, g = w.heap.size + 1 := ⟨_, rfl⟩
  obtain ⟨b7, hb7⟩ : ∃ b7, b7 = w2.heap.size := ⟨_, rfl⟩
  have V7 := Var3.new w2 (.int .i64 (R : Int)) (.int .i64 (C : Int)) (.slice (some ⟨g, 0, none⟩) R R) 27
  have ba : Below w2.heap.size w2 (w2.alloc (.cells #[.int .i64 (R : Int), .int .i64 (C : Int), .slice (some ⟨g, 0, none⟩) R R] 27)) := (by repeat (first | exact Below.refl _ _ | assumption | refine Below.alloc ?_ (by first | exact Nat.le_refl _ | (simp only [World.size_alloc, World.size_setCell, World.size_drew]; omega) | omega) _ | refine Below.setCell ?_ (by first | exact Nat.le_refl _ | (simp only [World.size_alloc, World.size_setCell, World.size_drew]; omega) | omega) _ | refine Below.drew ?_))
  have HS := Lib.hid (And.intro (HR.out.below ba (Nat.le_refl _)) (And.intro (HB.out.trans (ba.mono HB.out.size)) (And.intro (HV.out.below ba) V7)))
  rw [← hg] at HS ⊢
  rw [← hb7] at HS
  have hgb : w.heap.size < g := by omega
  have hgb7 : g < b7 := by omega
  clear V7 ba HR HB HV hg
  go_wp2_with fail
  rw [hmul, ← hb7]
  clear hb7
  go_loopw [19] (fun i wr => ∃ k : Nat, k ≤ D ∧ i = .int .i64 k ∧ OwnI wr g (.slice (some ⟨g, 0, none⟩) R R) (tbAt F R C k) ∧ Below w.heap.size w wr ∧ Var3 wr w.heap.size (.int .i64 0) (.int .i64 0) (.slice none 0 0) ∧ Var3 wr b7 (.int .i64 (R : Int)) (.int .i64 (C : Int)) (.slice (some ⟨g, 0, none⟩) R R)) (fun i _ => D - (intOf i).toNat)
  case atStart => exact ⟨0, Nat.zero_le _, rfl, HS.out⟩
  case round =>
    obtain ⟨k, hk, rfl, hown, hb, hR0, hV⟩ := hrel
    have HR0 := Lib.hid hR0
    have HO := Lib.hid hown
    have HB := Lib.hid hb
    have HV := Lib.hid hV
    have hbs := hb.size
    have ⟨⟨zV, cV, dV, eV⟩, fV, gV, iV⟩ := hV
    by_cases hlt : k < D
    · have hr : k / C < R := Nat.div_lt_of_lt_mul (by rw [Nat.mul_comm, ← HD.out]; exact hlt)
      have hc : k % C < C := Nat.mod_lt _ (by omega)
      have hke : Hid (k = (k / C) * C + k % C) := cell_eq (by omega)
      obtain ⟨r, hrr⟩ : ∃ r, r = k / C := ⟨_, rfl⟩
      obtain ⟨c, hcc⟩ : ∃ c, c = k % C := ⟨_, rfl⟩
      have hP := Lib.hid (fun w' => tabPlace_any (R : Int) C (some ⟨g, 0, none⟩) R R k w' (by omega) hC6 (by omega))
      rw [← hrr, ← hcc] at hke
      rw [← hrr] at hr
      rw [← hcc] at hc
      simp only [← hrr, ← hcc] at hP
      clear hrr hcc hR0 hown hb hV
      go_wp2_with fail
      refine (hP.out _).mono ?_
      rintro e w3 ⟨rfl, hb3⟩
      have b3 := HB.out.trans (hb3.mono hbs)
      have hz3 := b3.size
      go_wp2_with fail
      refine (HF.out r c w3 hr hc b3).mono ?_
      rintro e w4 ⟨rfl, hb4⟩
      have bt : Below wr.heap.size wr w4 := hb3.trans (hb4.mono hb3.size)
      have b4 := HB.out.trans (bt.mono hbs)
      have V4 := HV.out.below bt
      have O4 := HO.out.below bt (Nat.le_refl _)
      have R4 := HR0.out.below bt
      rw [hke.out] at O4
      have ⟨ci, fi⟩ := O4.at' (by rw [tbAt_len]) (i := r) (by rw [tbAt_len]; exact hr)
      rw [tbAt_nth F hr hc] at ci
      have hput := O4.put (by rw [tbAt_len]) r ((rowBits (F r) (c+1) : Nat) : Int)
      rw [tbAt_step F hr hc] at hput
      have hsm := rowBits_small (F r) (k := c) (by omega)
      have HOR : Hid (F r c = true → bits .or .i64 ((rowBits (F r) c : Nat) : Int) (wrap64 (2 ^ c)) = ((rowBits (F r) (c+1) : Nat) : Int)) := fun h => by
        rw [or_bit (by omega) (by omega), rowBits, h, if_pos rfl]
      have HP := Lib.hid hput
      have HO4 := Lib.hid O4
      have HV4 := Lib.hid V4
      have ⟨⟨zV4, cV4, dV4, eV4⟩, fV4, gV4, iV4⟩ := V4
      have r0 : (0 : Int) ≤ (r : Int) := by omega
      have r1 : (r : Int) < (R : Int) := by omega
      have c0 : (0 : Int) ≤ (c : Int) := by omega
      have c1 : (c : Int) < 62 := by omega
      have hD := HD.out
      clear hb3 hb4 hput hsm O4 V4 hP cV dV eV fV gV iV zV hD
      cases hF : F r c
      · have HS : Hid (tbAt F R C (k + 1) = tbAt F R C (r * C + c)) := by
          show tbAt F R C (k + 1) = _
          rw [hke.out]; exact tbAt_skip F hr hc hF
        clear hF
        go_wp2_with fail
        go_roundw
        case rel => exact ⟨k + 1, by omega, by go_num, by rw [HS.out]; exact HO4.out, b4, R4, HV4.out⟩
        case measure => simp [intOf]; omega
      · have HQ := Lib.hid (HOR.out hF)
        have HS : Hid (tbAt F R C (k + 1) = tbAt F R C (r * C + c + 1)) := by
          show tbAt F R C (k + 1) = _
          rw [hke.out]
        clear hF
        go_wp2_with fail
        go_region
        all_goals
          go_wp2_with fail
          go_roundw
          case rel =>
            rw [HQ.out]
            exact ⟨k + 1, by omega, by go_num, by rw [HS.out]; exact HP.out.1, (b4.setCell (p := ⟨g, r, none⟩) (show w.heap.size ≤ g by omega) _).drew, R4.other (p := ⟨g, r, none⟩) _ (show w.heap.size ≠ g by omega), HV4.out.other (p := ⟨g, r, none⟩) _ (show b7 ≠ g by omega)⟩
          case measure => simp [intOf]; omega
    · obtain rfl : k = D := by omega
      have ⟨⟨zR, cR, dR, eR⟩, fR, gR, iR⟩ := hR0
      have HE : Hid (tbAt F R C k = tbL F R C) := by
        show tbAt F R C k = _
        rw [HD.out]; exact tbAt_end F R C
      clear hR0 hown hb hV
      go_wp2_with fail
      have R3 := HR0.out.set (.int .i64 (R : Int)) (.int .i64 (C : Int)) (.slice (some ⟨g, 0, none⟩) R R)
      refine bodyPost_ret (v := .agg #[.int .i64 (R : Int), .int .i64 (C : Int), .slice (some ⟨g, 0, none⟩) R R]) (by have ⟨⟨_, q1, q2, q3⟩, _, _, _⟩ := R3; simp [results, Try.results62, go_sem, q1, q2, q3]) rfl ?_
      refine ⟨some ⟨g, 0, none⟩, R, rfl, ?_, ((HB.out.setCell (p := ⟨w.heap.size, 0, none⟩) (Nat.le_refl _) _).setCell (p := ⟨w.heap.size, 1, none⟩) (Nat.le_refl _) _).setCell (p := ⟨w.heap.size, 2, none⟩) (Nat.le_refl _) _⟩
      rw [← HE.out]
      exact (((HO.out.setBelow (p := ⟨w.heap.size, 0, none⟩) hgb _).setBelow (p := ⟨w.heap.size, 1, none⟩) hgb _).setBelow (p := ⟨w.heap.size, 2, none⟩) hgb _).mono (by omega)

/-- a row of a list of rows -/
def rowL (xss : List (List Int)) (k : Nat) : List Int := xss.getD k []
/-- how many numbers the first k rows have -/
def totS (xss : List (List Int)) : Nat → Nat
  | 0 => 0
  | k+1 => totS xss k + (rowL xss k).length
theorem totS_mono {xss : List (List Int)} {j : Nat} : ∀ {k : Nat}, j ≤ k → totS xss j ≤ totS xss k
  | 0, h => by obtain rfl : j = 0 := by omega
               exact Nat.le_refl _
  | k+1, h => by
    by_cases e : j = k + 1
    · rw [e]; exact Nat.le_refl _
    · have := totS_mono (xss := xss) (j := j) (k := k) (by omega)
      simp only [totS]; omega
theorem row_tot {xss : List (List Int)} {k n : Nat} (h : k < n) : (rowL xss k).length ≤ totS xss n := by
  have := totS_mono (xss := xss) (j := k + 1) (k := n) (by omega)
  simp only [totS] at this
  omega
/-- the slice of slices at an address reads as a list of rows -/
structure RdS (w : World) (a : Option Addr) (xss : List (List Int)) : Prop where
  len : xss.length ≤ 9223372036854775807
  row : ∀ k, k < xss.length → ∃ b off a' cap', a = some ⟨b, off, none⟩ ∧ b < w.heap.size ∧ w.cell? ⟨b, off + k, none⟩ = some (.slice a' (rowL xss k).length cap') ∧ Rd w a' (rowL xss k)
theorem RdS.below {w w' : World} {a : Option Addr} {xss : List (List Int)} (h : RdS w a xss) (hb : Below w.heap.size w w') : RdS w' a xss :=
  ⟨h.len, fun k hk => by
    obtain ⟨b, off, a', cap', e, hl, hc, hr⟩ := h.row k hk
    exact ⟨b, off, a', cap', e, Nat.lt_of_lt_of_le hl hb.size, (hb.cell (World.block_lt_of_cell? _ _ hc)).trans hc, hr.below hb⟩⟩
theorem ownsRow_bel {w w' : World} {B B' : Nat} {e : TypeId} {size : Nat} {v : Value} {n : Nat} {xs : List Value} (h : w.ownsRow B e size v n xs) (hb : Below B' w w') (hB : w.heap.size ≤ B') : w'.ownsRow B e size v n xs := by
  refine ⟨h.1, ?_⟩
  rcases h.2 with hn | ⟨g, cap, cur, e, hb', hg, rest⟩
  · exact .inl hn
  · refine .inr ⟨g, cap, cur, e, hb', ?_, rest⟩
    rw [hb.block g (by have := (Array.getElem?_eq_some_iff.1 hg).1; omega)]
    exact hg
def valAt (vl : List Value) (k : Nat) : Value := vl.getD k (.slice none 0 0)
/-- a slice of slices that owns its rows: the outer block is g -/
structure OwnS (w : World) (B g : Nat) (vl : List Value) (xss : List (List Int)) : Prop where
  lo : B ≤ g
  hi : g < w.heap.size
  max : xss.length ≤ 9223372036854775807
  cell : ∀ k, k < xss.length → w.cell? ⟨g, k, none⟩ = some (valAt vl k)
  row : ∀ k, k < xss.length → OwnI w (g + 1) (valAt vl k) (rowL xss k)
  apart : ∀ j k, j < k → k < xss.length → ∀ c d, (valAt vl j).ownBlock = some c → (valAt vl k).ownBlock = some d → c < d
theorem OwnS.rd {w : World} {B g : Nat} {vl : List Value} {xss : List (List Int)} (h : OwnS w B g vl xss) : RdS w (some ⟨g, 0, none⟩) xss :=
  ⟨h.max, fun k hk => by
    have h1 := h.row k hk
    have h2 := h.cell k hk
    obtain ⟨a', cap', e⟩ := h1.form
    rw [e] at h1 h2
    exact ⟨g, 0, a', cap', rfl, h.hi, by rw [Nat.zero_add]; exact h2, h1.rd⟩⟩
theorem OwnS.below {w w' : World} {B B' g : Nat} {vl : List Value} {xss : List (List Int)} (h : OwnS w B g vl xss) (hb : Below B' w w') (hB : w.heap.size ≤ B') : OwnS w' B g vl xss :=
  ⟨h.lo, Nat.lt_of_lt_of_le h.hi hb.size, h.max, fun k hk => (hb.cell (p := ⟨g, k, none⟩) (Nat.lt_of_lt_of_le h.hi hB)).trans (h.cell k hk), fun k hk => (h.row k hk).below hb hB, h.apart⟩
theorem OwnS.cut {w : World} {B g : Nat} {vl : List Value} {xss : List (List Int)} (h : OwnS w B g vl xss) {U : Nat} (hU : w.heap.size ≤ U) : B ≤ g ∧ ∀ k, k < xss.length → ∀ c, (valAt vl k).ownBlock = some c → g < c ∧ c < U :=
  ⟨h.lo, fun k hk c e => by have := (h.row k hk).lt c e; omega⟩
/-- only blocks of a stretch are written -/
structure TouchS (lo hi : Nat) (w w' : World) : Prop where
  os : w'.os = w.os
  tape : w'.tape = w.tape
  output : w'.output = w.output
  size : w.heap.size ≤ w'.heap.size
  block : ∀ k, k < w.heap.size → k < lo ∨ hi ≤ k → w'.heap[k]? = w.heap[k]?
theorem TouchS.refl (lo hi : Nat) (w : World) : TouchS lo hi w w := ⟨rfl, rfl, rfl, Nat.le_refl _, fun _ _ _ => rfl⟩
theorem TouchS.step {lo hi : Nat} {w w1 w2 : World} {r : Option Nat} (h : TouchS lo hi w w1) (hg : w1.grownBy w2 r) (hr : ∀ c, r = some c → lo ≤ c ∧ c < hi) : TouchS lo hi w w2 :=
  ⟨hg.os.trans h.os, hg.tape.trans h.tape, hg.output.trans h.output, Nat.le_trans h.size hg.size, fun k hk hn => (hg.block k (by have := h.size; omega) (fun e => by have := hr k e.symm; omega)).trans (h.block k hk hn)⟩
theorem TouchS.below {lo hi B : Nat} {w w' : World} (h : TouchS lo hi w w') (hB : B ≤ lo) (hs : B ≤ w.heap.size) : Below B w w' :=
  ⟨h.os, h.tape, h.output, h.size, fun k hk => h.block k (by omega) (by omega)⟩
theorem TouchS.other {lo hi : Nat} {w w' : World} (h : TouchS lo hi w w') (b : Nat) (hb : b < lo ∨ hi ≤ b) (hs : b < w.heap.size) : ∀ r, w'.heap[b]? = w.heap[b]? ∧ (r = some b → True) := fun _ => ⟨h.block b hs hb, fun _ => trivial⟩
theorem Box2.touch {lo hi : Nat} {w w' : World} {b : Nat} {u v : Value} (h : Box2 w b u v) (ht : TouchS lo hi w w') (hb : b < lo ∨ hi ≤ b) : Box2 w' b u v :=
  ⟨Nat.lt_of_lt_of_le h.1 ht.size, (World.cell?_of_block (w := w) (a := ⟨b, 0, none⟩) (ht.block b h.1 hb)).trans h.2.1, (World.cell?_of_block (w := w) (a := ⟨b, 1, none⟩) (ht.block b h.1 hb)).trans h.2.2⟩
theorem OwnI.touch {lo hi : Nat} {w w' : World} {B : Nat} {v : Value} {xs : List Int} (h : OwnI w B v xs) (ht : TouchS lo hi w w') (hb : ∀ c, v.ownBlock = some c → c < lo ∨ hi ≤ c) : OwnI w' B v xs := by
  refine ⟨h.1, ?_⟩
  rcases h.2 with hn | ⟨g, cap, cur, e, hb', hg, rest⟩
  · exact .inl hn
  · refine .inr ⟨g, cap, cur, e, hb', ?_, rest⟩
    rw [ht.block g (Array.getElem?_eq_some_iff.1 hg).1 (hb g (by rw [e]; rfl))]
    exact hg

/-- a block that begins with this cell -/
def Box1 (w : World) (b : Nat) (u : Value) : Prop := b < w.heap.size ∧ w.cell? ⟨b, 0, none⟩ = some u
theorem Box1.below {w w' : World} {b : Nat} {u : Value} (h : Box1 w b u) (hb : Below w.heap.size w w') : Box1 w' b u :=
  ⟨Nat.lt_of_lt_of_le h.1 hb.size, (hb.cell (p := ⟨b, 0, none⟩) h.1).trans h.2⟩
theorem Box1.new (w : World) (u : Value) (t : TypeId) : Box1 (w.alloc (.cells #[u] t)) w.heap.size u := ⟨by simp, by simp⟩
theorem Box1.kept {w w' : World} {b : Nat} {u : Value} {row : Option Nat} (h : Box1 w b u) (hg : w.grownBy w' row) (hne : some b ≠ row) : Box1 w' b u :=
  ⟨Nat.lt_of_lt_of_le h.1 hg.size, hg.cell h.2 hne⟩
theorem Box1.touch {lo hi : Nat} {w w' : World} {b : Nat} {u : Value} (h : Box1 w b u) (ht : TouchS lo hi w w') (hb : b < lo ∨ hi ≤ b) : Box1 w' b u :=
  ⟨Nat.lt_of_lt_of_le h.1 ht.size, (World.cell?_of_block (w := w) (a := ⟨b, 0, none⟩) (ht.block b h.1 hb)).trans h.2⟩
/-- a block that begins with this cell, which may be written -/
def Var1 (w : World) (b : Nat) (u : Value) : Prop := Box1 w b u ∧ w.frozen? ⟨b, 0, none⟩ = false
theorem Var1.new (w : World) (u : Value) (t : TypeId) : Var1 (w.alloc (.cells #[u] t)) w.heap.size u := ⟨Box1.new w u t, by simp⟩
theorem Var1.below {w w' : World} {b : Nat} {u : Value} (h : Var1 w b u) (hb : Below w.heap.size w w') : Var1 w' b u :=
  ⟨h.1.below hb, (hb.frozen (p := ⟨b, 0, none⟩) h.1.1).trans h.2⟩
theorem Var1.alloc {w : World} {b : Nat} {u : Value} (h : Var1 w b u) (o : Obj) : Var1 (w.alloc o) b u := h.below ((Below.refl _ _).alloc (Nat.le_refl _) o)
theorem Var1.kept {w w' : World} {b : Nat} {u : Value} {row : Option Nat} (h : Var1 w b u) (hg : w.grownBy w' row) (hne : some b ≠ row) : Var1 w' b u :=
  ⟨h.1.kept hg hne, (World.frozen?_of_block (w := w) (a := ⟨b, 0, none⟩) (hg.block b h.1.1 hne)).trans h.2⟩
theorem Var1.set {w : World} {b : Nat} {u : Value} (h : Var1 w b u) (x : Value) : Var1 (w.setCell ⟨b, 0, none⟩ x) b x :=
  ⟨⟨by simpa using h.1.1, World.cell?_setCell_same _ _ _ h.1.2⟩, by simpa using h.2⟩
theorem Var1.other {w : World} {b : Nat} {u : Value} (h : Var1 w b u) {p : Addr} (x : Value) (hne : b ≠ p.block) : Var1 (w.setCell p x) b u :=
  h.kept (grown_set w p x) (by simpa using hne)

theorem toTell_any (p q s : Nat) (n : Int) (a b d : Option Addr) (xs ra ca : List Int) (cap cb cd : Nat) (r c : Nat) (w : World) (hA : Box2 w p (.int .i64 n) (.slice a xs.length cap)) (hB : Box1 w q (.slice b ra.length cb)) (hC : Box1 w s (.slice d ca.length cd)) (hx : Rd w a xs) (hy : Rd w b ra) (hz : Rd w d ca) (hp : TabO2 n xs ra ca) (hr : r < ra.length) (hc : c < ca.length) :
    Calls Try.prog 72 #[.int .i64 (r : Int), .int .i64 (c : Int), .pointer (some ⟨p, 0, none⟩), .pointer (some ⟨q, 0, none⟩), .pointer (some ⟨s, 0, none⟩)] w fun e w' => e = .returned (.bool (toF xs ra ca r c)) ∧ Below w.heap.size w w' := by
  have ⟨zA, cA, dA⟩ := hA
  have ⟨zB, cB⟩ := hB
  have ⟨zC, cC⟩ := hC
  have hpr := ord_rel hp.ord
  have hlx := hx.len
  have hly := hy.len
  have hlz := hz.len
  have ⟨i0, i1⟩ := hp.ri r hr
  have ⟨j0, j1⟩ := hp.ci c hc
  obtain ⟨i, hi⟩ := Int.eq_ofNat_of_zero_le i0
  have hil : i < xs.length := by have := hpr.len; omega
  obtain ⟨b1, o1, rfl, hl1, hc1⟩ := hy.cell r hr
  obtain ⟨b2, o2, rfl, hl2, hc2⟩ := hz.cell c hc
  obtain ⟨b3, o3, rfl, hl3, hc3⟩ := hx.cell i hil
  have HI : Hid (toF xs ra ca r c = hasB (nth xs i) (nth ca c)) := by rw [Hid, toF, hi]; rfl
  rw [hi] at hc1
  have p0 := hpr.pos i hil
  have p1 : nth xs i ≤ 9223372036854775807 := by have := hpr.small i hil; omega
  have r0 : (0 : Int) ≤ (r : Int) := by omega
  have r1 : (r : Int) < (ra.length : Int) := by omega
  have c0 : (0 : Int) ≤ (c : Int) := by omega
  have c1 : (c : Int) < (ca.length : Int) := by omega
  have k0 : (0 : Int) ≤ (i : Int) := by omega
  have k1 : (i : Int) < (xs.length : Int) := by omega
  clear hi hp hpr
  cases h : hasB (nth xs i) (nth ca c)
  all_goals
    have HH := Lib.hid h
    clear h
    go_enter Try.func72, Try.ntmps72
    go_wp2_with fail
    go_quiet ((go_at_call 73; exact hasElement_is p0 p1 j0 HH.out _ _))
    go_wp2_with fail
    go_ret
    exact ⟨ret_bool (by rw [HI.out, HH.out]), Joins.below_draws _ _ _⟩
set_option maxRecDepth 100000 in
theorem iTabOrd_any (n : Int) (a : Option Addr) (xs : List Int) (cap : Nat) (b : Option Addr) (ra : List Int) (cb : Nat) (d : Option Addr) (ca : List Int) (cd : Nat) (w : World) (hn : -9223372036854775808 ≤ n ∧ n ≤ 9223372036854775807) (hx : Rd w a xs) (hy : Rd w b ra) (hz : Rd w d ca) :
    Calls Try.prog 39 #[.agg #[.int .i64 n, .slice a xs.length cap], .slice b ra.length cb, .slice d ca.length cd] w (GotT w (toR n xs ra ca) (toC n xs ra ca) (toL n xs ra ca) (okTO n xs ra ca)) := by
  have hly := hy.len
  have hlz := hz.len
  have b0 : Below w.heap.size w ((((w.alloc (.cells #[.int .i64 n, .slice a xs.length cap] 46)).alloc (.cells #[.slice b ra.length cb] 22)).alloc (.cells #[.slice d ca.length cd] 22)).alloc (.cells #[.int .i64 0, .int .i64 0, .slice none 0 0] 27)) := (by repeat (first | exact Below.refl _ _ | assumption | refine Below.alloc ?_ (by first | exact Nat.le_refl _ | (simp only [World.size_alloc, World.size_setCell, World.size_drew]; omega) | omega) _ | refine Below.setCell ?_ (by first | exact Nat.le_refl _ | (simp only [World.size_alloc, World.size_setCell, World.size_drew]; omega) | omega) _ | refine Below.drew ?_))
  have A0 : Box2 ((((w.alloc (.cells #[.int .i64 n, .slice a xs.length cap] 46)).alloc (.cells #[.slice b ra.length cb] 22)).alloc (.cells #[.slice d ca.length cd] 22)).alloc (.cells #[.int .i64 0, .int .i64 0, .slice none 0 0] 27)) w.heap.size (.int .i64 n) (.slice a xs.length cap) := (((Box2.new w _ _ _).below ((Below.refl _ _).alloc (Nat.le_refl _) _)).below ((Below.refl _ _).alloc (Nat.le_refl _) _)).below ((Below.refl _ _).alloc (Nat.le_refl _) _)
  have B0 : Box1 ((((w.alloc (.cells #[.int .i64 n, .slice a xs.length cap] 46)).alloc (.cells #[.slice b ra.length cb] 22)).alloc (.cells #[.slice d ca.length cd] 22)).alloc (.cells #[.int .i64 0, .int .i64 0, .slice none 0 0] 27)) (w.heap.size + 1) (.slice b ra.length cb) := by simpa using ((Box1.new (w.alloc (.cells #[.int .i64 n, .slice a xs.length cap] 46)) (.slice b ra.length cb) 22).below ((Below.refl _ _).alloc (Nat.le_refl _) (.cells #[.slice d ca.length cd] 22))).below ((Below.refl _ _).alloc (Nat.le_refl _) (.cells #[.int .i64 0, .int .i64 0, .slice none 0 0] 27))
  have C0 : Box1 ((((w.alloc (.cells #[.int .i64 n, .slice a xs.length cap] 46)).alloc (.cells #[.slice b ra.length cb] 22)).alloc (.cells #[.slice d ca.length cd] 22)).alloc (.cells #[.int .i64 0, .int .i64 0, .slice none 0 0] 27)) (w.heap.size + 2) (.slice d ca.length cd) := by simpa using (Box1.new ((w.alloc (.cells #[.int .i64 n, .slice a xs.length cap] 46)).alloc (.cells #[.slice b ra.length cb] 22)) (.slice d ca.length cd) 22).below ((Below.refl _ _).alloc (Nat.le_refl _) (.cells #[.int .i64 0, .int .i64 0, .slice none 0 0] 27))
  have V0 : Var3 ((((w.alloc (.cells #[.int .i64 n, .slice a xs.length cap] 46)).alloc (.cells #[.slice b ra.length cb] 22)).alloc (.cells #[.slice d ca.length cd] 22)).alloc (.cells #[.int .i64 0, .int .i64 0, .slice none 0 0] 27)) (w.heap.size + 3) (.int .i64 0) (.int .i64 0) (.slice none 0 0) := by simpa using Var3.new (((w.alloc (.cells #[.int .i64 n, .slice a xs.length cap] 46)).alloc (.cells #[.slice b ra.length cb] 22)).alloc (.cells #[.slice d ca.length cd] 22)) (.int .i64 0) (.int .i64 0) (.slice none 0 0) 27
  obtain ⟨W0, hW0⟩ : ∃ x : World, x = (((w.alloc (.cells #[.int .i64 n, .slice a xs.length cap] 46)).alloc (.cells #[.slice b ra.length cb] 22)).alloc (.cells #[.slice d ca.length cd] 22)).alloc (.cells #[.int .i64 0, .int .i64 0, .slice none 0 0] 27) := ⟨_, rfl⟩
  rw [← hW0] at b0 A0 B0 C0 V0
  have HCO := Lib.hid (iIsOrder_any n a xs cap W0 hn (hx.below b0))
  rw [hW0] at HCO
  have HW := Lib.hid hW0
  clear hW0
  have hz0 : w.heap.size + 4 ≤ W0.heap.size := by have := V0.1.1; omega
  have HF0 : Hid (okTO n xs ra ca = false → ∀ w1 : World, Below w.heap.size w w1 → Var3 w1 (w.heap.size + 3) (.int .i64 0) (.int .i64 0) (.slice none 0 0) → True ∧ GotT w (toR n xs ra ca) (toC n xs ra ca) (toL n xs ra ca) (okTO n xs ra ca) (.returned (.tuple #[.agg #[.int .i64 0, .int .i64 0, .slice none 0 0], .bool false])) (((w1.setCell ⟨w.heap.size + 3, 0, none⟩ (.int .i64 0)).setCell ⟨w.heap.size + 3, 1, none⟩ (.int .i64 0)).setCell ⟨w.heap.size + 3, 2, none⟩ (.slice none 0 0))) := fun h w1 hb1 _ =>
    ⟨trivial, none, 0, by simp [toR, toC, toL, h], by simp only [toL, h]; exact OwnI.nil _ _, ((hb1.setCell (show w.heap.size ≤ w.heap.size + 3 by omega) _).setCell (show w.heap.size ≤ w.heap.size + 3 by omega) _).setCell (show w.heap.size ≤ w.heap.size + 3 by omega) _⟩
  have Hb := Lib.hid b0
  have HA := Lib.hid A0
  have HB := Lib.hid B0
  have HC := Lib.hid C0
  have HV := Lib.hid V0
  clear b0 A0 B0 C0 V0
  cases h1 : ordB n xs
  · have HF : Hid (okTO n xs ra ca = false) := by simp [Hid, okTO, h1]
    have H1 := Lib.hid h1
    clear h1
    go_enter Try.func39, Try.ntmps39
    go_wp2_with fail
    refine HCO.out.mono ?_
    rw [H1.out]
    rintro e w1 ⟨rfl, hb⟩
    rw [← HW.out] at hb
    have b1 := Hb.out.trans (hb.mono Hb.out.size)
    have V1 := HV.out.below hb
    have ⟨⟨zV, cV, dV, eV⟩, fV, gV, iV⟩ := V1
    clear hb
    go_wp2_with fail
    have V2 := V1.set (.int .i64 0) (.int .i64 0) (.slice none 0 0)
    exact bodyPost_ret (v := .tuple #[.agg #[.int .i64 0, .int .i64 0, .slice none 0 0], .bool false]) (by have ⟨⟨_, q1, q2, q3⟩, _, _, _⟩ := V2; simp [results, Try.results39, go_sem, q1, q2, q3]) rfl (HF0.out HF.out w1 b1 V1).2
  · have HP1 := Lib.hid (ord_rel h1)
    have H1 := Lib.hid h1
    cases h2 : (inB (ra.length : Int) 1 6 && inB (ca.length : Int) 1 6)
    · have HF : Hid (okTO n xs ra ca = false) := by simp [Hid, okTO, h2]
      have H2 := Lib.hid h2
      clear h1 h2
      go_enter Try.func39, Try.ntmps39
      go_wp2_with fail
      refine HCO.out.mono ?_
      rw [H1.out]
      rintro e w1 ⟨rfl, hb⟩
      rw [← HW.out] at hb
      have b1 := Hb.out.trans (hb.mono Hb.out.size)
      have V1 := HV.out.below hb
      have ⟨⟨zV, cV, dV, eV⟩, fV, gV, iV⟩ := V1
      have ⟨zB, cB⟩ := HB.out.below hb
      have ⟨zC, cC⟩ := HC.out.below hb
      clear hb
      go_wp2_with fail
      refine (isShape_any _ _ _).mono ?_
      rw [H2.out]
      rintro e w' ⟨rfl, rfl⟩
      go_wp2_with fail
      have V2 := V1.set (.int .i64 0) (.int .i64 0) (.slice none 0 0)
      exact bodyPost_ret (v := .tuple #[.agg #[.int .i64 0, .int .i64 0, .slice none 0 0], .bool false]) (by have ⟨⟨_, q1, q2, q3⟩, _, _, _⟩ := V2; simp [results, Try.results39, go_sem, q1, q2, q3]) rfl (HF0.out HF.out _ b1 V1).2
    · have H2 := Lib.hid h2
      cases h3 : incB n ra
      · have HF : Hid (okTO n xs ra ca = false) := by simp [Hid, okTO, h3]
        have H3 := Lib.hid h3
        clear h1 h2 h3
        go_enter Try.func39, Try.ntmps39
        go_wp2_with fail
        refine HCO.out.mono ?_
        rw [H1.out]
        rintro e w1 ⟨rfl, hb⟩
        rw [← HW.out] at hb
        have b1 := Hb.out.trans (hb.mono Hb.out.size)
        have V1 := HV.out.below hb
        have ⟨zA, cA, dA⟩ := HA.out.below hb
        have ⟨zB, cB⟩ := HB.out.below hb
        have ⟨zC, cC⟩ := HC.out.below hb
        have b1s := b1.size
        clear hb
        go_wp2_with fail
        refine (isShape_any _ _ _).mono ?_
        rw [H2.out]
        rintro e w' ⟨rfl, rfl⟩
        go_wp2_with fail
        refine (areInc_any n a xs.length cap b ra cb _ hn.2 (hy.below b1)).mono ?_
        rw [H3.out]
        rintro e w2 ⟨rfl, hb2⟩
        have b2 := b1.trans (hb2.mono b1s)
        have V2 := V1.below hb2
        have ⟨⟨zV, cV, dV, eV⟩, fV, gV, iV⟩ := V2
        go_wp2_with fail
        have V3 := V2.set (.int .i64 0) (.int .i64 0) (.slice none 0 0)
        exact bodyPost_ret (v := .tuple #[.agg #[.int .i64 0, .int .i64 0, .slice none 0 0], .bool false]) (by have ⟨⟨_, q1, q2, q3⟩, _, _, _⟩ := V3; simp [results, Try.results39, go_sem, q1, q2, q3]) rfl (HF0.out HF.out _ b2 V2).2
      · have H3 := Lib.hid h3
        cases h4 : incB n ca
        · have HF : Hid (okTO n xs ra ca = false) := by simp [Hid, okTO, h4]
          have H4 := Lib.hid h4
          clear h1 h2 h3 h4
          go_enter Try.func39, Try.ntmps39
          go_wp2_with fail
          refine HCO.out.mono ?_
          rw [H1.out]
          rintro e w1 ⟨rfl, hb⟩
          rw [← HW.out] at hb
          have b1 := Hb.out.trans (hb.mono Hb.out.size)
          have V1 := HV.out.below hb
          have A1 := HA.out.below hb
          have C1 := HC.out.below hb
          have ⟨zA, cA, dA⟩ := A1
          have ⟨zB, cB⟩ := HB.out.below hb
          have ⟨zC, cC⟩ := C1
          have b1s := b1.size
          clear hb
          go_wp2_with fail
          refine (isShape_any _ _ _).mono ?_
          rw [H2.out]
          rintro e w' ⟨rfl, rfl⟩
          go_wp2_with fail
          refine (areInc_any n a xs.length cap b ra cb _ hn.2 (hy.below b1)).mono ?_
          rw [H3.out]
          rintro e w2 ⟨rfl, hb2⟩
          have b2 := b1.trans (hb2.mono b1s)
          have V2 := V1.below hb2
          have ⟨zA2, cA2, dA2⟩ := A1.below hb2
          have ⟨zC2, cC2⟩ := C1.below hb2
          have b2s := b2.size
          clear hb2 cA dA cB cC
          go_wp2_with fail
          refine (areInc_any n a xs.length cap d ca cd _ hn.2 (hz.below b2)).mono ?_
          rw [H4.out]
          rintro e w3 ⟨rfl, hb3⟩
          have b3 := b2.trans (hb3.mono b2s)
          have V3 := V2.below hb3
          have ⟨⟨zV, cV, dV, eV⟩, fV, gV, iV⟩ := V3
          go_wp2_with fail
          have V4 := V3.set (.int .i64 0) (.int .i64 0) (.slice none 0 0)
          exact bodyPost_ret (v := .tuple #[.agg #[.int .i64 0, .int .i64 0, .slice none 0 0], .bool false]) (by have ⟨⟨_, q1, q2, q3⟩, _, _, _⟩ := V4; simp [results, Try.results39, go_sem, q1, q2, q3]) rfl (HF0.out HF.out _ b3 V3).2
        · have hok : okTO n xs ra ca = true := by simp only [okTO, h1, h2, h3, h4]; rfl
          have HP := Lib.hid (okTO_p hok)
          have E1 : Hid (toR n xs ra ca = (ra.length : Int)) := by simp [Hid, toR, hok]
          have E2 : Hid (toC n xs ra ca = (ca.length : Int)) := by simp [Hid, toC, hok]
          have E3 : Hid (toL n xs ra ca = tbL (toF xs ra ca) ra.length ca.length) := by simp [Hid, toL, hok]
          have HOK := Lib.hid hok
          have H4 := Lib.hid h4
          clear h1 h2 h3 h4 hok
          go_enter Try.func39, Try.ntmps39
          go_wp2_with fail
          refine HCO.out.mono ?_
          rw [H1.out]
          rintro e w1 ⟨rfl, hb⟩
          rw [← HW.out] at hb
          have b1 := Hb.out.trans (hb.mono Hb.out.size)
          have V1 := HV.out.below hb
          have A1 := HA.out.below hb
          have B1 := HB.out.below hb
          have C1 := HC.out.below hb
          have ⟨zA, cA, dA⟩ := A1
          have ⟨zB, cB⟩ := B1
          have ⟨zC, cC⟩ := C1
          have b1s := b1.size
          clear hb
          go_wp2_with fail
          refine (isShape_any _ _ _).mono ?_
          rw [H2.out]
          rintro e w' ⟨rfl, rfl⟩
          go_wp2_with fail
          refine (areInc_any n a xs.length cap b ra cb _ hn.2 (hy.below b1)).mono ?_
          rw [H3.out]
          rintro e w2 ⟨rfl, hb2⟩
          have b2 := b1.trans (hb2.mono b1s)
          have V2 := V1.below hb2
          have A2 := A1.below hb2
          have B2 := B1.below hb2
          have C2 := C1.below hb2
          have ⟨zA2, cA2, dA2⟩ := A2
          have ⟨zC2, cC2⟩ := C2
          have b2s := b2.size
          clear hb2 cA dA cB cC
          go_wp2_with fail
          refine (areInc_any n a xs.length cap d ca cd _ hn.2 (hz.below b2)).mono ?_
          rw [H4.out]
          rintro e w3 ⟨rfl, hb3⟩
          have b3 := b2.trans (hb3.mono b2s)
          have V3 := V2.below hb3
          have A3 := A2.below hb3
          have B3 := B2.below hb3
          have C3 := C2.below hb3
          have hTell : TellsRC w3 72 #[.pointer (some ⟨w.heap.size, 0, none⟩), .pointer (some ⟨w.heap.size + 1, 0, none⟩), .pointer (some ⟨w.heap.size + 2, 0, none⟩)] (toF xs ra ca) ra.length ca.length := fun r c w' hr hc hb' =>
            toTell_any w.heap.size (w.heap.size + 1) (w.heap.size + 2) n a b d xs ra ca cap cb cd r c w' (A3.below hb') (B3.below hb') (C3.below hb') ((hx.below b3).below hb') ((hy.below b3).below hb') ((hz.below b3).below hb') HP.out hr hc
          have HT := Lib.hid (tableBy_any ra.length ca.length _ _ _ _ HP.out.r0 HP.out.r1 HP.out.c0 HP.out.c1 Try.call72 hTell)
          have ⟨zB3, cB3⟩ := B3
          have ⟨zC3, cC3⟩ := C3
          have HV3 := Lib.hid V3
          have b3s := b3.size
          have hz3 : w.heap.size + 3 < w3.heap.size := V3.1.1
          clear hb3 cA2 dA2 cC2 hTell A3 B3 C3 V3
          go_wp2_with fail
          refine HT.out.mono ?_
          rintro e w4 ⟨a4, cap4, rfl, ho4, hb4⟩
          have V4 := HV3.out.below hb4
          have b4 := b3.trans (hb4.mono b3s)
          have ⟨⟨zV, cV, dV, eV⟩, fV, gV, iV⟩ := V4
          go_wp2_with fail
          have V5 := V4.set (.int .i64 (ra.length : Int)) (.int .i64 (ca.length : Int)) (.slice a4 ra.length cap4)
          refine bodyPost_ret (v := .tuple #[.agg #[.int .i64 (ra.length : Int), .int .i64 (ca.length : Int), .slice a4 ra.length cap4], .bool true]) (by have ⟨⟨_, q1, q2, q3⟩, _, _, _⟩ := V5; simp [results, Try.results39, go_sem, q1, q2, q3]) rfl ?_
          refine ⟨a4, cap4, by rw [E1.out, E2.out, E3.out, tbL_len, HOK.out], ?_, ((b4.setCell (show w.heap.size ≤ w.heap.size + 3 by omega) _).setCell (show w.heap.size ≤ w.heap.size + 3 by omega) _).setCell (show w.heap.size ≤ w.heap.size + 3 by omega) _⟩
          rw [E3.out, tbL_len]
          exact (((ho4.setBelow (p := ⟨w.heap.size + 3, 0, none⟩) hz3 _).setBelow (p := ⟨w.heap.size + 3, 1, none⟩) hz3 _).setBelow (p := ⟨w.heap.size + 3, 2, none⟩) hz3 _).mono b3s

/-- the marks k, k + 1, .. -/
def marks (k : Int) (n : Nat) : List Int := (List.range n).map (fun (j : Nat) => k + (j : Int))
theorem marks_len (k : Int) (n : Nat) : (marks k n).length = n := by simp [marks]
theorem marks_nth {k : Int} {n j : Nat} (h : j < n) : nth (marks k n) j = k + j := by
  simp [nth, marks, h]
theorem mark_step (k : Int) (xs : List Int) (j : Nat) (h : j < xs.length) :
    ((marks k j ++ xs.drop j).map (Value.int .i64)).set j (.int .i64 (k + j)) = (marks k (j+1) ++ xs.drop (j+1)).map (Value.int .i64) := by
  apply List.ext_getElem?
  intro i
  rw [List.getElem?_set]
  by_cases hj : j = i
  · subst hj
    rw [if_pos rfl, if_pos (by simp [marks_len]; omega), List.getElem?_map, List.getElem?_append_left (by rw [marks_len]; omega)]
    simp [marks]
  · simp only [hj, if_false, List.getElem?_map, List.getElem?_append, marks_len, List.getElem?_drop]
    by_cases h1 : i < j
    · have h2 : i < j + 1 := by omega
      simp [h1, h2, marks]
    · have h2 : ¬ i < j + 1 := by omega
      have h3 : j + (i - j) = j + 1 + (i - (j + 1)) := by omega
      simp [h1, h2, h3]
theorem own_ne {v u : Value} (h : ∀ c, v.ownBlock = some c → u.ownBlock ≠ some c) : v.ownBlock = none ∨ v.ownBlock ≠ u.ownBlock := by
  cases hv : v.ownBlock with
  | none => exact .inl rfl
  | some c => exact .inr (fun e => h c hv e.symm)

theorem markIntS_any (a : Option Addr) (xs : List Int) (cap : Nat) (k : Int) (B : Nat) (w : World) (h0 : 0 ≤ k) (h1 : k ≤ 1099511627776) (hn : xs.length ≤ 1048576) (ho : OwnI w B (.slice a xs.length cap) xs) :
    Calls Try.prog 24 #[.slice a xs.length cap, .int .i64 k] w fun e w' => e = .returned (.int .i64 (k + xs.length)) ∧ OwnI w' B (.slice a xs.length cap) (marks k xs.length) ∧ w.grownBy w' (Value.slice a xs.length cap).ownBlock := by
  go_enter Try.func24, Try.ntmps24
  go_wp2_with fail
  go_loopw [1, 5] (fun k' i wr => ∃ j : Nat, j ≤ xs.length ∧ i = .int .i64 j ∧ k' = .int .i64 (k + j) ∧ wr.ownsRow B 3 1 (.slice a xs.length cap) xs.length ((marks k j ++ xs.drop j).map (Value.int .i64)) ∧ w.grownBy wr (Value.slice a xs.length cap).ownBlock) (fun _ i _ => xs.length - (intOf i).toNat)
  case atStart => exact ⟨0, Nat.zero_le _, rfl, by simp, by (have e : marks k 0 ++ xs.drop 0 = xs := by simp [marks]); rw [e]; exact ho, World.grownBy.refl _ _⟩
  case round =>
    obtain ⟨j, hj, rfl, rfl, hown, hg⟩ := hrel
    by_cases hlt : j < xs.length
    · obtain ⟨g, rfl⟩ : ∃ g, a = some ⟨g, 0, none⟩ := by
        rcases hown.2 with ⟨e, h⟩ | ⟨g, c, cur, e, _⟩
        · omega
        · simp only [Value.slice.injEq] at e
          exact ⟨g, e.1⟩
      have hst := World.ownsRow.stored hown j (.int .i64 (k + j))
      rw [mark_step k xs j hlt] at hst
      have hcc := World.ownsRow.cellAt hown j (by omega)
      have hfr := World.ownsRow.frozenAt hown j
      have hcc' : ∃ u, wr.cell? ⟨g, j, none⟩ = some u := by
        rw [hcc]
        exact ⟨_, List.getElem?_eq_getElem (by simp [marks_len]; omega)⟩
      obtain ⟨u, hu⟩ := hcc'
      have Hst := Lib.hid hst
      have Hg := Lib.hid (grown_trans hg hst.2)
      clear hst hcc hown hg
      go_wp2
      go_roundw
      case rel => exact ⟨j + 1, by omega, by go_num, by go_num, Hst.out.1, Hg.out⟩
      case measure => simp [intOf]; omega
    · obtain rfl : j = xs.length := by omega
      go_wp2
      go_ret
      refine ⟨rfl, ?_, hg⟩
      have e : marks k xs.length ++ xs.drop xs.length = marks k xs.length := by simp
      rw [e] at hown
      show World.ownsRow _ _ _ _ _ _ _
      rw [marks_len]
      exact hown

theorem markOrder_any (n : Int) (a : Option Addr) (xs : List Int) (cap : Nat) (k : Int) (B : Nat) (w : World) (h0 : 0 ≤ k) (h1 : k ≤ 1099511627776) (hn : xs.length ≤ 1048576) (ho : OwnI w B (.slice a xs.length cap) xs) :
    Calls Try.prog 41 #[.agg #[.int .i64 n, .slice a xs.length cap], .int .i64 k] w fun e w' => e = .returned (.int .i64 (k + xs.length)) ∧ OwnI w' B (.slice a xs.length cap) (marks k xs.length) ∧ w.grownBy w' (Value.slice a xs.length cap).ownBlock := by
  go_enter Try.func41, Try.ntmps41
  go_wp2_with fail
  refine (markIntS_any _ _ _ _ B _ h0 h1 hn (ho.alloc _)).mono ?_
  rintro e w1 ⟨rfl, ho1, hg1⟩
  go_wp2_with fail
  go_ret
  exact ⟨rfl, ho1, grown_alloc_set hg1⟩

theorem markTable_any (n m : Int) (a : Option Addr) (xs : List Int) (cap : Nat) (k : Int) (B : Nat) (w : World) (h0 : 0 ≤ k) (h1 : k ≤ 1099511627776) (hn : xs.length ≤ 1048576) (ho : OwnI w B (.slice a xs.length cap) xs) :
    Calls Try.prog 23 #[.agg #[.int .i64 n, .int .i64 m, .slice a xs.length cap], .int .i64 k] w fun e w' => e = .returned (.int .i64 (k + xs.length)) ∧ OwnI w' B (.slice a xs.length cap) (marks k xs.length) ∧ w.grownBy w' (Value.slice a xs.length cap).ownBlock := by
  go_enter Try.func23, Try.ntmps23
  go_wp2_with fail
  refine (markIntS_any _ _ _ _ B _ h0 h1 hn (ho.alloc _)).mono ?_
  rintro e w1 ⟨rfl, ho1, hg1⟩
  go_wp2_with fail
  go_ret
  exact ⟨rfl, ho1, grown_alloc_set hg1⟩

theorem eqTable_same (n m : Int) (a b : Option Addr) (xs : List Int) (ca cb : Nat) (w : World) (hx : Rd w a xs) (hy : Rd w b xs) :
    Calls Try.prog 19 #[.agg #[.int .i64 n, .int .i64 m, .slice a xs.length ca], .agg #[.int .i64 n, .int .i64 m, .slice b xs.length cb]] w fun e w' => e = .returned (.bool true) ∧ Below w.heap.size w w' := by
  go_enter Try.func19, Try.ntmps19
  go_wp2_with fail
  refine (eqIntS_any _ _ xs xs _ _ _ (hx.below (by repeat (first | exact Below.refl _ _ | assumption | refine Below.alloc ?_ (by first | exact Nat.le_refl _ | (simp only [World.size_alloc, World.size_setCell, World.size_drew]; omega) | omega) _ | refine Below.setCell ?_ (by first | exact Nat.le_refl _ | (simp only [World.size_alloc, World.size_setCell, World.size_drew]; omega) | omega) _ | refine Below.drew ?_))) (hy.below (by repeat (first | exact Below.refl _ _ | assumption | refine Below.alloc ?_ (by first | exact Nat.le_refl _ | (simp only [World.size_alloc, World.size_setCell, World.size_drew]; omega) | omega) _ | refine Below.setCell ?_ (by first | exact Nat.le_refl _ | (simp only [World.size_alloc, World.size_setCell, World.size_drew]; omega) | omega) _ | refine Below.drew ?_)))).mono ?_
  rintro e w1 ⟨rfl, hb⟩
  rw [eqL_self]
  go_wp2_with fail
  go_ret
  exact ⟨rfl, Below.trans (by repeat (first | exact Below.refl _ _ | assumption | refine Below.alloc ?_ (by first | exact Nat.le_refl _ | (simp only [World.size_alloc, World.size_setCell, World.size_drew]; omega) | omega) _ | refine Below.setCell ?_ (by first | exact Nat.le_refl _ | (simp only [World.size_alloc, World.size_setCell, World.size_drew]; omega) | omega) _ | refine Below.drew ?_)) (hb.mono (by first | (simp only [World.size_alloc, World.size_setCell, World.size_drew]; omega) | omega))⟩

theorem heldIntS_any (a : Option Addr) (n cap : Nat) (k : Int) (w : World) (h0 : 0 ≤ k) (h1 : k ≤ 1099511627776) (hn : n ≤ 1048576) (hx : Rd w a (marks k n)) :
    Calls Try.prog 25 #[.slice a n cap, .int .i64 k] w fun e w' => e = .returned (.int .i64 (k + n)) ∧ Below w.heap.size w w' := by
  go_enter Try.func25, Try.ntmps25
  go_wp2_with fail
  go_loop [1, 5] (fun k' i => ∃ j : Nat, j ≤ n ∧ i = .int .i64 j ∧ k' = .int .i64 (k + j)) (fun _ i => n - (intOf i).toNat)
  case atStart => exact ⟨0, Nat.zero_le _, rfl, by simp⟩
  case round =>
    obtain ⟨j, hj, rfl, rfl⟩ := hrel
    by_cases hlt : j < n
    · obtain ⟨b, off, rfl, hbl, hc⟩ := hx.cell j (by rw [marks_len]; exact hlt)
      rw [marks_nth hlt] at hc
      go_wp2_with fail
      go_round
      case rel => exact ⟨j + 1, by omega, by go_num, by go_num⟩
      case measure => simp [intOf]; omega
    · obtain rfl : j = n := by omega
      go_wp2_with fail
      go_ret
      exact ⟨rfl, (by repeat (first | exact Below.refl _ _ | assumption | refine Below.alloc ?_ (by first | exact Nat.le_refl _ | (simp only [World.size_alloc, World.size_setCell, World.size_drew]; omega) | omega) _ | refine Below.setCell ?_ (by first | exact Nat.le_refl _ | (simp only [World.size_alloc, World.size_setCell, World.size_drew]; omega) | omega) _ | refine Below.drew ?_))⟩

theorem heldTable_any (n0 m : Int) (a : Option Addr) (n cap : Nat) (k : Int) (w : World) (h0 : 0 ≤ k) (h1 : k ≤ 1099511627776) (hn : n ≤ 1048576) (hx : Rd w a (marks k n)) :
    Calls Try.prog 30 #[.agg #[.int .i64 n0, .int .i64 m, .slice a n cap], .int .i64 k] w fun e w' => e = .returned (.int .i64 (k + n)) ∧ Below w.heap.size w w' := by
  have hp : 0 ≤ k + n := by omega
  go_enter Try.func30, Try.ntmps30
  go_wp2_with fail
  refine (heldIntS_any _ _ _ _ _ h0 h1 hn (hx.alloc _)).mono ?_
  rintro e w1 ⟨rfl, hb1⟩
  go_wp2_with fail
  go_ret
  exact ⟨rfl, Below.trans (by repeat (first | exact Below.refl _ _ | assumption | refine Below.alloc ?_ (by first | exact Nat.le_refl _ | (simp only [World.size_alloc, World.size_setCell, World.size_drew]; omega) | omega) _ | refine Below.setCell ?_ (by first | exact Nat.le_refl _ | (simp only [World.size_alloc, World.size_setCell, World.size_drew]; omega) | omega) _ | refine Below.drew ?_)) (hb1.mono (by first | (simp only [World.size_alloc, World.size_setCell, World.size_drew]; omega) | omega))⟩

theorem walk (n0 : Int) (a0 : Option Addr) (xs0 : List Int) (cap0 : Nat) (a1 : Option Addr) (xs1 : List Int) (cap1 : Nat) (a2 : Option Addr) (xs2 : List Int) (cap2 : Nat) (w : World) (hn0 : -9223372036854775808 ≤ n0 ∧ n0 ≤ 9223372036854775807) (hx0 : Rd w a0 xs0) (hx1 : Rd w a1 xs1) (hx2 : Rd w a2 xs2) :
    Calls Try.prog 9 #[.agg #[.int .i64 n0, .slice a0 xs0.length cap0], .slice a1 xs1.length cap1, .slice a2 xs2.length cap2] w fun e w' => e = .returned (.bool true) ∧ Below w.heap.size w w' := by
  have hR0 : (toL n0 xs0 xs1 xs2).length ≤ 1048576 := toL_len n0 xs0 xs1 xs2
  by_cases hs1 : 1048576 < (xs1.length : Int)
  · go_enter Try.func9, Try.ntmps9
    go_wp2_with fail
    go_ret
    exact ⟨rfl, (by repeat (first | exact Below.refl _ _ | assumption | refine Below.alloc ?_ (by first | exact Nat.le_refl _ | (simp only [World.size_alloc, World.size_setCell, World.size_drew]; omega) | omega) _ | refine Below.setCell ?_ (by first | exact Nat.le_refl _ | (simp only [World.size_alloc, World.size_setCell, World.size_drew]; omega) | omega) _ | refine Below.drew ?_))⟩
  by_cases hs2 : 1048576 < (xs2.length : Int)
  · go_enter Try.func9, Try.ntmps9
    go_wp2_with fail
    go_ret
    exact ⟨rfl, (by repeat (first | exact Below.refl _ _ | assumption | refine Below.alloc ?_ (by first | exact Nat.le_refl _ | (simp only [World.size_alloc, World.size_setCell, World.size_drew]; omega) | omega) _ | refine Below.setCell ?_ (by first | exact Nat.le_refl _ | (simp only [World.size_alloc, World.size_setCell, World.size_drew]; omega) | omega) _ | refine Below.drew ?_))⟩
  by_cases hs0 : 1048576 < (xs0.length : Int)
  · go_enter Try.func9, Try.ntmps9
    go_wp2_with fail
    refine (szOrder_no (by omega) (by omega) (by omega) hx0.len).mono ?_
    rintro e w1 ⟨rfl, hb1⟩
    have bw1 : Below w.heap.size w w1 := Below.trans (by repeat (first | exact Below.refl _ _ | assumption | refine Below.alloc ?_ (by first | exact Nat.le_refl _ | (simp only [World.size_alloc, World.size_setCell, World.size_drew]; omega) | omega) _ | refine Below.setCell ?_ (by first | exact Nat.le_refl _ | (simp only [World.size_alloc, World.size_setCell, World.size_drew]; omega) | omega) _ | refine Below.drew ?_)) (hb1.mono (by first | (simp only [World.size_alloc, World.size_setCell, World.size_drew]; omega) | omega))
    have A0_1 : Box2 w1 w.heap.size (.int .i64 n0) (.slice a0 xs0.length cap0) := ⟨by have := hb1.size; simp at this; omega, (hb1.cell (p := ⟨w.heap.size, 0, none⟩) (by simp <;> omega)).trans (by simp), (hb1.cell (p := ⟨w.heap.size, 1, none⟩) (by simp <;> omega)).trans (by simp)⟩
    have ⟨zA0_1, cA0_1, dA0_1⟩ := A0_1
    go_wp2_with fail
    go_ret
    exact ⟨rfl, bw1⟩
  go_enter Try.func9, Try.ntmps9
  go_wp2_with fail
  refine (szOrder_ok (by omega) (by omega)).mono ?_
  rintro e w1 ⟨rfl, hb⟩
  have bw1 : Below w.heap.size w w1 := Below.trans (by repeat (first | exact Below.refl _ _ | assumption | refine Below.alloc ?_ (by first | exact Nat.le_refl _ | (simp only [World.size_alloc, World.size_setCell, World.size_drew]; omega) | omega) _ | refine Below.setCell ?_ (by first | exact Nat.le_refl _ | (simp only [World.size_alloc, World.size_setCell, World.size_drew]; omega) | omega) _ | refine Below.drew ?_)) (hb.mono (by first | (simp only [World.size_alloc, World.size_setCell, World.size_drew]; omega) | omega))
  have z1 : w.heap.size ≤ w1.heap.size := bw1.size
  have A0_1 : Box2 w1 w.heap.size (.int .i64 n0) (.slice a0 xs0.length cap0) := ⟨by have := hb.size; simp at this; omega, (hb.cell (p := ⟨w.heap.size, 0, none⟩) (by simp <;> omega)).trans (by simp), (hb.cell (p := ⟨w.heap.size, 1, none⟩) (by simp <;> omega)).trans (by simp)⟩
  have ⟨zA0_1, cA0_1, dA0_1⟩ := A0_1
  clear hb
  go_wp2_with fail
  refine (toOrder_any _ _ _ _ _ (hx0.below bw1) (by omega)).mono ?_
  rintro e w2 ⟨pT0, qT0, rfl, ho, hb⟩
  have ht : Below w1.heap.size w1 w2 := hb
  have z2 : w1.heap.size ≤ w2.heap.size := ht.size
  have bw2 : Below w.heap.size w w2 := bw1.trans (ht.mono bw1.size)
  have A0_2 := A0_1.below ht
  have ⟨zA0_2, cA0_2, dA0_2⟩ := A0_2
  clear A0_1 cA0_1 dA0_1
  have T0_2 := ho
  have UT0 := T0_2.cut (Nat.le_refl _)
  clear ho
  clear ht hb
  go_wp2_with fail
  refine (toIntS_any _ _ _ _ (hx1.below bw2) (by omega)).mono ?_
  rintro e w3 ⟨pT1, qT1, rfl, ho, hb⟩
  have ht : Below w2.heap.size w2 w3 := hb
  have z3 : w2.heap.size ≤ w3.heap.size := ht.size
  have bw3 : Below w.heap.size w w3 := bw2.trans (ht.mono bw2.size)
  have A0_3 := A0_2.below ht
  have ⟨zA0_3, cA0_3, dA0_3⟩ := A0_3
  have T0_3 := T0_2.below ht (Nat.le_refl _)
  clear A0_2 cA0_2 dA0_2 T0_2
  have T1_3 := ho
  have UT1 := T1_3.cut (Nat.le_refl _)
  clear ho
  clear ht hb
  go_wp2_with fail
  refine (toIntS_any _ _ _ _ (hx2.below bw3) (by omega)).mono ?_
  rintro e w4 ⟨pT2, qT2, rfl, ho, hb⟩
  have ht : Below w3.heap.size w3 w4 := hb
  have z4 : w3.heap.size ≤ w4.heap.size := ht.size
  have bw4 : Below w.heap.size w w4 := bw3.trans (ht.mono bw3.size)
  have A0_4 := A0_3.below ht
  have ⟨zA0_4, cA0_4, dA0_4⟩ := A0_4
  have T0_4 := T0_3.below ht (Nat.le_refl _)
  have T1_4 := T1_3.below ht (Nat.le_refl _)
  clear A0_3 cA0_3 dA0_3 T0_3 T1_3
  have T2_4 := ho
  have UT2 := T2_4.cut (Nat.le_refl _)
  clear ho
  clear ht hb
  go_wp2_with fail
  refine (sTabOrd_any _ _ _ _ _ _ _ _ _ _ _ hn0 (T0_4.rd) (T1_4.rd) (T2_4.rd)).mono ?_
  rintro e w5 ⟨pR0, qR0, rfl, ho0, hb⟩
  have ht : Below w4.heap.size w4 w5 := hb
  have z5 : w4.heap.size ≤ w5.heap.size := ht.size
  have bw5 : Below w.heap.size w w5 := bw4.trans (ht.mono bw4.size)
  have A0_5 := A0_4.below ht
  have ⟨zA0_5, cA0_5, dA0_5⟩ := A0_5
  have T0_5 := T0_4.below ht (Nat.le_refl _)
  have T1_5 := T1_4.below ht (Nat.le_refl _)
  have T2_5 := T2_4.below ht (Nat.le_refl _)
  clear A0_4 cA0_4 dA0_4 T0_4 T1_4 T2_4
  have R0_5 := ho0
  have UR0 := R0_5.cut (Nat.le_refl _)
  clear ho0
  clear ht hb
  go_wp2_with fail
  clear T0_5 UT0
  clear T1_5 UT1
  clear T2_5 UT2
  refine (toOrder_any _ _ _ _ _ (hx0.below (bw5.alloc bw5.size _)) (by omega)).mono ?_
  rintro e w6 ⟨pX0, qX0, rfl, ho, hb⟩
  have ht : Below w5.heap.size w5 w6 := Below.trans (by repeat (first | exact Below.refl _ _ | assumption | refine Below.alloc ?_ (by first | exact Nat.le_refl _ | (simp only [World.size_alloc, World.size_setCell, World.size_drew]; omega) | omega) _ | refine Below.setCell ?_ (by first | exact Nat.le_refl _ | (simp only [World.size_alloc, World.size_setCell, World.size_drew]; omega) | omega) _ | refine Below.drew ?_)) (hb.mono (by first | (simp only [World.size_alloc, World.size_setCell, World.size_drew]; omega) | omega))
  have z6 : w5.heap.size ≤ w6.heap.size := ht.size
  have bw6 : Below w.heap.size w w6 := bw5.trans (ht.mono bw5.size)
  have A0_6 := A0_5.below ht
  have BR0_6 : Box3 w6 w5.heap.size (.int .i64 (toR n0 xs0 xs1 xs2)) (.int .i64 (toC n0 xs0 xs1 xs2)) (.slice pR0 (toL n0 xs0 xs1 xs2).length qR0) := (Box3.new w5 _ _ _ 27).below hb
  have ⟨zA0_6, cA0_6, dA0_6⟩ := A0_6
  have ⟨zBR0_6, cBR0_6, dBR0_6, eBR0_6⟩ := BR0_6
  have R0_6 := R0_5.below ht (Nat.le_refl _)
  clear A0_5 cA0_5 dA0_5 R0_5
  have X0_6 := ho
  have UX0 := X0_6.cut (Nat.le_refl _); simp only [World.size_alloc] at UX0
  clear ho
  clear ht hb
  go_wp2_with fail
  refine (toIntS_any _ _ _ _ (hx1.below (bw6.alloc bw6.size _)) (by omega)).mono ?_
  rintro e w7 ⟨pX1, qX1, rfl, ho, hb⟩
  have ht : Below w6.heap.size w6 w7 := Below.trans (by repeat (first | exact Below.refl _ _ | assumption | refine Below.alloc ?_ (by first | exact Nat.le_refl _ | (simp only [World.size_alloc, World.size_setCell, World.size_drew]; omega) | omega) _ | refine Below.setCell ?_ (by first | exact Nat.le_refl _ | (simp only [World.size_alloc, World.size_setCell, World.size_drew]; omega) | omega) _ | refine Below.drew ?_)) (hb.mono (by first | (simp only [World.size_alloc, World.size_setCell, World.size_drew]; omega) | omega))
  have z7 : w6.heap.size ≤ w7.heap.size := ht.size
  have bw7 : Below w.heap.size w w7 := bw6.trans (ht.mono bw6.size)
  have A0_7 := A0_6.below ht
  have BR0_7 := BR0_6.below ht
  have BX0_7 : Box2 w7 w6.heap.size (.int .i64 n0) (.slice pX0 xs0.length qX0) := (Box2.new w6 _ _ 46).below hb
  have ⟨zA0_7, cA0_7, dA0_7⟩ := A0_7
  have ⟨zBR0_7, cBR0_7, dBR0_7, eBR0_7⟩ := BR0_7
  have ⟨zBX0_7, cBX0_7, dBX0_7⟩ := BX0_7
  have R0_7 := R0_6.below ht (Nat.le_refl _)
  have X0_7 := X0_6.below ht (Nat.le_refl _)
  clear A0_6 cA0_6 dA0_6 BR0_6 cBR0_6 dBR0_6 eBR0_6 R0_6 X0_6
  have X1_7 := ho
  have UX1 := X1_7.cut (Nat.le_refl _); simp only [World.size_alloc] at UX1
  clear ho
  clear ht hb
  go_wp2_with fail
  refine (toIntS_any _ _ _ _ (hx2.below bw7) (by omega)).mono ?_
  rintro e w8 ⟨pX2, qX2, rfl, ho, hb⟩
  have ht : Below w7.heap.size w7 w8 := hb
  have z8 : w7.heap.size ≤ w8.heap.size := ht.size
  have bw8 : Below w.heap.size w w8 := bw7.trans (ht.mono bw7.size)
  have A0_8 := A0_7.below ht
  have BR0_8 := BR0_7.below ht
  have BX0_8 := BX0_7.below ht
  have ⟨zA0_8, cA0_8, dA0_8⟩ := A0_8
  have ⟨zBR0_8, cBR0_8, dBR0_8, eBR0_8⟩ := BR0_8
  have ⟨zBX0_8, cBX0_8, dBX0_8⟩ := BX0_8
  have R0_8 := R0_7.below ht (Nat.le_refl _)
  have X0_8 := X0_7.below ht (Nat.le_refl _)
  have X1_8 := X1_7.below ht (Nat.le_refl _)
  clear A0_7 cA0_7 dA0_7 BR0_7 cBR0_7 dBR0_7 eBR0_7 BX0_7 cBX0_7 dBX0_7 R0_7 X0_7 X1_7
  have X2_8 := ho
  have UX2 := X2_8.cut (Nat.le_refl _)
  clear ho
  clear ht hb
  go_wp2_with fail
  refine (iTabOrd_any _ _ _ _ _ _ _ _ _ _ _ hn0 (X0_8.rd) (X1_8.rd) (X2_8.rd)).mono ?_
  rintro e w9 ⟨pG0, qG0, rfl, ho0, hb⟩
  have ht : Below w8.heap.size w8 w9 := hb
  have z9 : w8.heap.size ≤ w9.heap.size := ht.size
  have bw9 : Below w.heap.size w w9 := bw8.trans (ht.mono bw8.size)
  have A0_9 := A0_8.below ht
  have BR0_9 := BR0_8.below ht
  have BX0_9 := BX0_8.below ht
  have ⟨zA0_9, cA0_9, dA0_9⟩ := A0_9
  have ⟨zBR0_9, cBR0_9, dBR0_9, eBR0_9⟩ := BR0_9
  have ⟨zBX0_9, cBX0_9, dBX0_9⟩ := BX0_9
  have R0_9 := R0_8.below ht (Nat.le_refl _)
  have X0_9 := X0_8.below ht (Nat.le_refl _)
  have X1_9 := X1_8.below ht (Nat.le_refl _)
  have X2_9 := X2_8.below ht (Nat.le_refl _)
  clear A0_8 cA0_8 dA0_8 BR0_8 cBR0_8 dBR0_8 eBR0_8 BX0_8 cBX0_8 dBX0_8 R0_8 X0_8 X1_8 X2_8
  have G0_9 := ho0
  have UG0 := G0_9.cut (Nat.le_refl _)
  clear ho0
  clear ht hb
  go_wp2_with fail
  refine (eqTable_same _ _ _ _ (toL n0 xs0 xs1 xs2) _ _ _ (G0_9.rd.below (by repeat (first | exact Below.refl _ _ | assumption | refine Below.alloc ?_ (by first | exact Nat.le_refl _ | (simp only [World.size_alloc, World.size_setCell, World.size_drew]; omega) | omega) _ | refine Below.setCell ?_ (by first | exact Nat.le_refl _ | (simp only [World.size_alloc, World.size_setCell, World.size_drew]; omega) | omega) _ | refine Below.drew ?_))) (R0_9.rd.below (by repeat (first | exact Below.refl _ _ | assumption | refine Below.alloc ?_ (by first | exact Nat.le_refl _ | (simp only [World.size_alloc, World.size_setCell, World.size_drew]; omega) | omega) _ | refine Below.setCell ?_ (by first | exact Nat.le_refl _ | (simp only [World.size_alloc, World.size_setCell, World.size_drew]; omega) | omega) _ | refine Below.drew ?_)))).mono ?_
  rintro e w10 ⟨rfl, hb⟩
  have ht : Below w9.heap.size w9 w10 := Below.trans (by repeat (first | exact Below.refl _ _ | assumption | refine Below.alloc ?_ (by first | exact Nat.le_refl _ | (simp only [World.size_alloc, World.size_setCell, World.size_drew]; omega) | omega) _ | refine Below.setCell ?_ (by first | exact Nat.le_refl _ | (simp only [World.size_alloc, World.size_setCell, World.size_drew]; omega) | omega) _ | refine Below.drew ?_)) (hb.mono (by first | (simp only [World.size_alloc, World.size_setCell, World.size_drew]; omega) | omega))
  have z10 : w9.heap.size ≤ w10.heap.size := ht.size
  have bw10 : Below w.heap.size w w10 := bw9.trans (ht.mono bw9.size)
  have A0_10 := A0_9.below ht
  have BR0_10 := BR0_9.below ht
  have BX0_10 := BX0_9.below ht
  have BG0_10 : Box3 w10 w9.heap.size (.int .i64 (toR n0 xs0 xs1 xs2)) (.int .i64 (toC n0 xs0 xs1 xs2)) (.slice pG0 (toL n0 xs0 xs1 xs2).length qG0) := (Box3.new w9 _ _ _ 27).below hb
  have ⟨zA0_10, cA0_10, dA0_10⟩ := A0_10
  have ⟨zBR0_10, cBR0_10, dBR0_10, eBR0_10⟩ := BR0_10
  have ⟨zBX0_10, cBX0_10, dBX0_10⟩ := BX0_10
  have ⟨zBG0_10, cBG0_10, dBG0_10, eBG0_10⟩ := BG0_10
  have R0_10 := R0_9.below ht (Nat.le_refl _)
  have X0_10 := X0_9.below ht (Nat.le_refl _)
  have X1_10 := X1_9.below ht (Nat.le_refl _)
  have X2_10 := X2_9.below ht (Nat.le_refl _)
  have G0_10 := G0_9.below ht (Nat.le_refl _)
  clear A0_9 cA0_9 dA0_9 BR0_9 cBR0_9 dBR0_9 eBR0_9 BX0_9 cBX0_9 dBX0_9 R0_9 X0_9 X1_9 X2_9 G0_9
  clear ht hb
  go_wp2_with fail
  go_region_held3 (fun w' => w'.cell? ⟨w.heap.size, 0, none⟩ = some (.int .i64 n0) ∧ w'.cell? ⟨w.heap.size, 1, none⟩ = some (.slice a0 xs0.length cap0) ∧ w'.cell? ⟨w6.heap.size, 0, none⟩ = some (.int .i64 n0) ∧ w'.cell? ⟨w6.heap.size, 1, none⟩ = some (.slice pX0 xs0.length qX0))
    (first | exact ⟨P12.2.1, P12.2.2, Q12.2.1, Q12.2.2⟩ | exact ⟨P11.2.1, P11.2.2, Q11.2.1, Q11.2.2⟩ | go_keep)
    (first | (go_at_call 37; refine (toOrder_any _ _ _ _ _ (hx0.below (bw10.trans (Joins.below_draws _ _ _))) (by omega)).mono ?_; rintro e w11 ⟨a11', cap11', rfl, ho11, hb11⟩; have ht11 : Below w10.heap.size w10 w11 := (Joins.below_draws _ _ _).trans hb11; have P11 := A0_10.below ht11; have Q11 := BX0_10.below ht11) | (go_at_call 40; refine (eqOrder_any _ _ _ _ xs0 xs0 _ _ _ (X0_10.rd.below ht11) ho11.rd).mono ?_; rw [eqO_refl]; rintro e w12 ⟨rfl, hb12⟩; have P12 := P11.below hb12; have Q12 := Q11.below hb12))
  have ht : Below w10.heap.size w10 w12 := ht11.trans (hb12.mono ht11.size)
  have z12 : w10.heap.size ≤ w12.heap.size := ht.size
  have bw12 : Below w.heap.size w w12 := bw10.trans (ht.mono bw10.size)
  clear P11 Q11 P12 Q12 ho11
  have A0_12 := A0_10.below ht
  have BR0_12 := BR0_10.below ht
  have BX0_12 := BX0_10.below ht
  have BG0_12 := BG0_10.below ht
  have ⟨zA0_12, cA0_12, dA0_12⟩ := A0_12
  have ⟨zBR0_12, cBR0_12, dBR0_12, eBR0_12⟩ := BR0_12
  have ⟨zBX0_12, cBX0_12, dBX0_12⟩ := BX0_12
  have ⟨zBG0_12, cBG0_12, dBG0_12, eBG0_12⟩ := BG0_12
  have R0_12 := R0_10.below ht (Nat.le_refl _)
  have X0_12 := X0_10.below ht (Nat.le_refl _)
  have X1_12 := X1_10.below ht (Nat.le_refl _)
  have X2_12 := X2_10.below ht (Nat.le_refl _)
  have G0_12 := G0_10.below ht (Nat.le_refl _)
  clear A0_10 cA0_10 dA0_10 BR0_10 cBR0_10 dBR0_10 eBR0_10 BX0_10 cBX0_10 dBX0_10 BG0_10 cBG0_10 dBG0_10 eBG0_10 R0_10 X0_10 X1_10 X2_10 G0_10
  clear ht hb12 ht11 hb11
  go_wp2_with fail
  refine (toIntS_any _ _ _ _ (hx1.below bw12) (by omega)).mono ?_
  rintro e w13 ⟨pY1, qY1, rfl, ho, hb⟩
  have ht : Below w12.heap.size w12 w13 := hb
  have z13 : w12.heap.size ≤ w13.heap.size := ht.size
  have bw13 : Below w.heap.size w w13 := bw12.trans (ht.mono bw12.size)
  have A0_13 := A0_12.below ht
  have BR0_13 := BR0_12.below ht
  have BX0_13 := BX0_12.below ht
  have BG0_13 := BG0_12.below ht
  have ⟨zA0_13, cA0_13, dA0_13⟩ := A0_13
  have ⟨zBR0_13, cBR0_13, dBR0_13, eBR0_13⟩ := BR0_13
  have ⟨zBX0_13, cBX0_13, dBX0_13⟩ := BX0_13
  have ⟨zBG0_13, cBG0_13, dBG0_13, eBG0_13⟩ := BG0_13
  have R0_13 := R0_12.below ht (Nat.le_refl _)
  have X0_13 := X0_12.below ht (Nat.le_refl _)
  have X1_13 := X1_12.below ht (Nat.le_refl _)
  have X2_13 := X2_12.below ht (Nat.le_refl _)
  have G0_13 := G0_12.below ht (Nat.le_refl _)
  clear A0_12 cA0_12 dA0_12 BR0_12 cBR0_12 dBR0_12 eBR0_12 BX0_12 cBX0_12 dBX0_12 BG0_12 cBG0_12 dBG0_12 eBG0_12 R0_12 X0_12 X1_12 X2_12 G0_12
  have Y1_13 := ho
  have UY1 := Y1_13.cut (Nat.le_refl _)
  clear ho
  clear ht hb
  go_wp2_with fail
  refine (eqIntS_any _ _ xs1 xs1 _ _ _ X1_13.rd Y1_13.rd).mono ?_
  rw [eqL_self]
  rintro e w14 ⟨rfl, hb⟩
  have ht : Below w13.heap.size w13 w14 := hb
  have z14 : w13.heap.size ≤ w14.heap.size := ht.size
  have bw14 : Below w.heap.size w w14 := bw13.trans (ht.mono bw13.size)
  have A0_14 := A0_13.below ht
  have BR0_14 := BR0_13.below ht
  have BX0_14 := BX0_13.below ht
  have BG0_14 := BG0_13.below ht
  have ⟨zA0_14, cA0_14, dA0_14⟩ := A0_14
  have ⟨zBR0_14, cBR0_14, dBR0_14, eBR0_14⟩ := BR0_14
  have ⟨zBX0_14, cBX0_14, dBX0_14⟩ := BX0_14
  have ⟨zBG0_14, cBG0_14, dBG0_14, eBG0_14⟩ := BG0_14
  have R0_14 := R0_13.below ht (Nat.le_refl _)
  have X0_14 := X0_13.below ht (Nat.le_refl _)
  have X1_14 := X1_13.below ht (Nat.le_refl _)
  have X2_14 := X2_13.below ht (Nat.le_refl _)
  have G0_14 := G0_13.below ht (Nat.le_refl _)
  have Y1_14 := Y1_13.below ht (Nat.le_refl _)
  clear A0_13 cA0_13 dA0_13 BR0_13 cBR0_13 dBR0_13 eBR0_13 BX0_13 cBX0_13 dBX0_13 BG0_13 cBG0_13 dBG0_13 eBG0_13 R0_13 X0_13 X1_13 X2_13 G0_13 Y1_13
  clear ht hb
  go_wp2_with fail
  clear Y1_14 UY1
  refine (toIntS_any _ _ _ _ (hx2.below bw14) (by omega)).mono ?_
  rintro e w15 ⟨pY2, qY2, rfl, ho, hb⟩
  have ht : Below w14.heap.size w14 w15 := hb
  have z15 : w14.heap.size ≤ w15.heap.size := ht.size
  have bw15 : Below w.heap.size w w15 := bw14.trans (ht.mono bw14.size)
  have A0_15 := A0_14.below ht
  have BR0_15 := BR0_14.below ht
  have BX0_15 := BX0_14.below ht
  have BG0_15 := BG0_14.below ht
  have ⟨zA0_15, cA0_15, dA0_15⟩ := A0_15
  have ⟨zBR0_15, cBR0_15, dBR0_15, eBR0_15⟩ := BR0_15
  have ⟨zBX0_15, cBX0_15, dBX0_15⟩ := BX0_15
  have ⟨zBG0_15, cBG0_15, dBG0_15, eBG0_15⟩ := BG0_15
  have R0_15 := R0_14.below ht (Nat.le_refl _)
  have X0_15 := X0_14.below ht (Nat.le_refl _)
  have X1_15 := X1_14.below ht (Nat.le_refl _)
  have X2_15 := X2_14.below ht (Nat.le_refl _)
  have G0_15 := G0_14.below ht (Nat.le_refl _)
  clear A0_14 cA0_14 dA0_14 BR0_14 cBR0_14 dBR0_14 eBR0_14 BX0_14 cBX0_14 dBX0_14 BG0_14 cBG0_14 dBG0_14 eBG0_14 R0_14 X0_14 X1_14 X2_14 G0_14
  have Y2_15 := ho
  have UY2 := Y2_15.cut (Nat.le_refl _)
  clear ho
  clear ht hb
  go_wp2_with fail
  refine (eqIntS_any _ _ xs2 xs2 _ _ _ X2_15.rd Y2_15.rd).mono ?_
  rw [eqL_self]
  rintro e w16 ⟨rfl, hb⟩
  have ht : Below w15.heap.size w15 w16 := hb
  have z16 : w15.heap.size ≤ w16.heap.size := ht.size
  have bw16 : Below w.heap.size w w16 := bw15.trans (ht.mono bw15.size)
  have A0_16 := A0_15.below ht
  have BR0_16 := BR0_15.below ht
  have BX0_16 := BX0_15.below ht
  have BG0_16 := BG0_15.below ht
  have ⟨zA0_16, cA0_16, dA0_16⟩ := A0_16
  have ⟨zBR0_16, cBR0_16, dBR0_16, eBR0_16⟩ := BR0_16
  have ⟨zBX0_16, cBX0_16, dBX0_16⟩ := BX0_16
  have ⟨zBG0_16, cBG0_16, dBG0_16, eBG0_16⟩ := BG0_16
  have R0_16 := R0_15.below ht (Nat.le_refl _)
  have X0_16 := X0_15.below ht (Nat.le_refl _)
  have X1_16 := X1_15.below ht (Nat.le_refl _)
  have X2_16 := X2_15.below ht (Nat.le_refl _)
  have G0_16 := G0_15.below ht (Nat.le_refl _)
  have Y2_16 := Y2_15.below ht (Nat.le_refl _)
  clear A0_15 cA0_15 dA0_15 BR0_15 cBR0_15 dBR0_15 eBR0_15 BX0_15 cBX0_15 dBX0_15 BG0_15 cBG0_15 dBG0_15 eBG0_15 R0_15 X0_15 X1_15 X2_15 G0_15 Y2_15
  clear ht hb
  go_wp2_with fail
  clear Y2_16 UY2
  refine (markOrder_any _ _ _ _ _ _ _ (by omega) (by omega) (by omega) X0_16).mono ?_
  rintro e w17 ⟨rfl, ho, hg⟩
  have z17 : w16.heap.size ≤ w17.heap.size := hg.size
  have bw17 : Below w.heap.size w w17 := bw16.trans (below_of_grown hg (fun b e => by have := UX0 b e; omega) (by omega))
  have A0_17 := A0_16.kept hg (ne_own (fun c e => by have := UX0 c e; omega))
  have ⟨zA0_17, cA0_17, dA0_17⟩ := A0_17
  have BR0_17 := BR0_16.kept hg (ne_own (fun c e => by have := UX0 c e; omega))
  have ⟨zBR0_17, cBR0_17, dBR0_17, eBR0_17⟩ := BR0_17
  have BX0_17 := BX0_16.kept hg (ne_own (fun c e => by have := UX0 c e; omega))
  have ⟨zBX0_17, cBX0_17, dBX0_17⟩ := BX0_17
  have BG0_17 := BG0_16.kept hg (ne_own (fun c e => by have := UX0 c e; omega))
  have ⟨zBG0_17, cBG0_17, dBG0_17, eBG0_17⟩ := BG0_17
  have R0_17 := R0_16.kept hg (own_ne (fun c e e2 => by have h1 := UR0 c e; have h2 := UX0 c e2; omega))
  have X1_17 := X1_16.kept hg (own_ne (fun c e e2 => by have h1 := UX1 c e; have h2 := UX0 c e2; omega))
  have X2_17 := X2_16.kept hg (own_ne (fun c e e2 => by have h1 := UX2 c e; have h2 := UX0 c e2; omega))
  have G0_17 := G0_16.kept hg (own_ne (fun c e e2 => by have h1 := UG0 c e; have h2 := UX0 c e2; omega))
  clear A0_16 cA0_16 dA0_16 BR0_16 cBR0_16 dBR0_16 eBR0_16 BX0_16 cBX0_16 dBX0_16 BG0_16 cBG0_16 dBG0_16 eBG0_16 R0_16 X0_16 X1_16 X2_16 G0_16 hg
  have X0_17 := ho
  clear ho
  go_wp2_with fail
  refine (markIntS_any _ _ _ _ _ _ (by omega) (by omega) (by omega) X1_17).mono ?_
  rintro e w18 ⟨rfl, ho, hg⟩
  have z18 : w17.heap.size ≤ w18.heap.size := hg.size
  have bw18 : Below w.heap.size w w18 := bw17.trans (below_of_grown hg (fun b e => by have := UX1 b e; omega) (by omega))
  have A0_18 := A0_17.kept hg (ne_own (fun c e => by have := UX1 c e; omega))
  have ⟨zA0_18, cA0_18, dA0_18⟩ := A0_18
  have BR0_18 := BR0_17.kept hg (ne_own (fun c e => by have := UX1 c e; omega))
  have ⟨zBR0_18, cBR0_18, dBR0_18, eBR0_18⟩ := BR0_18
  have BX0_18 := BX0_17.kept hg (ne_own (fun c e => by have := UX1 c e; omega))
  have ⟨zBX0_18, cBX0_18, dBX0_18⟩ := BX0_18
  have BG0_18 := BG0_17.kept hg (ne_own (fun c e => by have := UX1 c e; omega))
  have ⟨zBG0_18, cBG0_18, dBG0_18, eBG0_18⟩ := BG0_18
  have R0_18 := R0_17.kept hg (own_ne (fun c e e2 => by have h1 := UR0 c e; have h2 := UX1 c e2; omega))
  have X0_18 := X0_17.kept hg (own_ne (fun c e e2 => by have h1 := UX0 c e; have h2 := UX1 c e2; omega))
  have X2_18 := X2_17.kept hg (own_ne (fun c e e2 => by have h1 := UX2 c e; have h2 := UX1 c e2; omega))
  have G0_18 := G0_17.kept hg (own_ne (fun c e e2 => by have h1 := UG0 c e; have h2 := UX1 c e2; omega))
  clear A0_17 cA0_17 dA0_17 BR0_17 cBR0_17 dBR0_17 eBR0_17 BX0_17 cBX0_17 dBX0_17 BG0_17 cBG0_17 dBG0_17 eBG0_17 R0_17 X0_17 X1_17 X2_17 G0_17 hg
  have X1_18 := ho
  clear ho
  go_wp2_with fail
  refine (markIntS_any _ _ _ _ _ _ (by omega) (by omega) (by omega) X2_18).mono ?_
  rintro e w19 ⟨rfl, ho, hg⟩
  have z19 : w18.heap.size ≤ w19.heap.size := hg.size
  have bw19 : Below w.heap.size w w19 := bw18.trans (below_of_grown hg (fun b e => by have := UX2 b e; omega) (by omega))
  have A0_19 := A0_18.kept hg (ne_own (fun c e => by have := UX2 c e; omega))
  have ⟨zA0_19, cA0_19, dA0_19⟩ := A0_19
  have BR0_19 := BR0_18.kept hg (ne_own (fun c e => by have := UX2 c e; omega))
  have ⟨zBR0_19, cBR0_19, dBR0_19, eBR0_19⟩ := BR0_19
  have BX0_19 := BX0_18.kept hg (ne_own (fun c e => by have := UX2 c e; omega))
  have ⟨zBX0_19, cBX0_19, dBX0_19⟩ := BX0_19
  have BG0_19 := BG0_18.kept hg (ne_own (fun c e => by have := UX2 c e; omega))
  have ⟨zBG0_19, cBG0_19, dBG0_19, eBG0_19⟩ := BG0_19
  have R0_19 := R0_18.kept hg (own_ne (fun c e e2 => by have h1 := UR0 c e; have h2 := UX2 c e2; omega))
  have X0_19 := X0_18.kept hg (own_ne (fun c e e2 => by have h1 := UX0 c e; have h2 := UX2 c e2; omega))
  have X1_19 := X1_18.kept hg (own_ne (fun c e e2 => by have h1 := UX1 c e; have h2 := UX2 c e2; omega))
  have G0_19 := G0_18.kept hg (own_ne (fun c e e2 => by have h1 := UG0 c e; have h2 := UX2 c e2; omega))
  clear A0_18 cA0_18 dA0_18 BR0_18 cBR0_18 dBR0_18 eBR0_18 BX0_18 cBX0_18 dBX0_18 BG0_18 cBG0_18 dBG0_18 eBG0_18 R0_18 X0_18 X1_18 X2_18 G0_18 hg
  have X2_19 := ho
  clear ho
  go_wp2_with fail
  refine (eqTable_same _ _ _ _ (toL n0 xs0 xs1 xs2) _ _ _ (G0_19.rd) (R0_19.rd)).mono ?_
  rintro e w20 ⟨rfl, hb⟩
  have ht : Below w19.heap.size w19 w20 := hb
  have z20 : w19.heap.size ≤ w20.heap.size := ht.size
  have bw20 : Below w.heap.size w w20 := bw19.trans (ht.mono bw19.size)
  have A0_20 := A0_19.below ht
  have BR0_20 := BR0_19.below ht
  have BX0_20 := BX0_19.below ht
  have BG0_20 := BG0_19.below ht
  have ⟨zA0_20, cA0_20, dA0_20⟩ := A0_20
  have ⟨zBR0_20, cBR0_20, dBR0_20, eBR0_20⟩ := BR0_20
  have ⟨zBX0_20, cBX0_20, dBX0_20⟩ := BX0_20
  have ⟨zBG0_20, cBG0_20, dBG0_20, eBG0_20⟩ := BG0_20
  have R0_20 := R0_19.below ht (Nat.le_refl _)
  have X0_20 := X0_19.below ht (Nat.le_refl _)
  have X1_20 := X1_19.below ht (Nat.le_refl _)
  have X2_20 := X2_19.below ht (Nat.le_refl _)
  have G0_20 := G0_19.below ht (Nat.le_refl _)
  clear A0_19 cA0_19 dA0_19 BR0_19 cBR0_19 dBR0_19 eBR0_19 BX0_19 cBX0_19 dBX0_19 BG0_19 cBG0_19 dBG0_19 eBG0_19 R0_19 X0_19 X1_19 X2_19 G0_19
  clear ht hb
  go_wp2_with fail
  refine (markTable_any _ _ _ _ _ _ _ _ (by omega) (by omega) hR0 G0_20).mono ?_
  rintro e w21 ⟨rfl, ho, hg⟩
  have z21 : w20.heap.size ≤ w21.heap.size := hg.size
  have bw21 : Below w.heap.size w w21 := bw20.trans (below_of_grown hg (fun b e => by have := UG0 b e; omega) (by omega))
  have A0_21 := A0_20.kept hg (ne_own (fun c e => by have := UG0 c e; omega))
  have ⟨zA0_21, cA0_21, dA0_21⟩ := A0_21
  have BR0_21 := BR0_20.kept hg (ne_own (fun c e => by have := UG0 c e; omega))
  have ⟨zBR0_21, cBR0_21, dBR0_21, eBR0_21⟩ := BR0_21
  have BX0_21 := BX0_20.kept hg (ne_own (fun c e => by have := UG0 c e; omega))
  have ⟨zBX0_21, cBX0_21, dBX0_21⟩ := BX0_21
  have BG0_21 := BG0_20.kept hg (ne_own (fun c e => by have := UG0 c e; omega))
  have ⟨zBG0_21, cBG0_21, dBG0_21, eBG0_21⟩ := BG0_21
  have R0_21 := R0_20.kept hg (own_ne (fun c e e2 => by have h1 := UR0 c e; have h2 := UG0 c e2; omega))
  have X0_21 := X0_20.kept hg (own_ne (fun c e e2 => by have h1 := UX0 c e; have h2 := UG0 c e2; omega))
  have X1_21 := X1_20.kept hg (own_ne (fun c e e2 => by have h1 := UX1 c e; have h2 := UG0 c e2; omega))
  have X2_21 := X2_20.kept hg (own_ne (fun c e e2 => by have h1 := UX2 c e; have h2 := UG0 c e2; omega))
  clear A0_20 cA0_20 dA0_20 BR0_20 cBR0_20 dBR0_20 eBR0_20 BX0_20 cBX0_20 dBX0_20 BG0_20 cBG0_20 dBG0_20 eBG0_20 R0_20 X0_20 X1_20 X2_20 G0_20 hg
  have G0_21 := ho
  clear ho
  go_wp2_with fail
  refine (heldTable_any _ _ _ _ _ _ _ (by omega) (by omega) hR0 G0_21.rd).mono ?_
  rintro e w22 ⟨rfl, hb⟩
  have ht : Below w21.heap.size w21 w22 := hb
  have z22 : w21.heap.size ≤ w22.heap.size := ht.size
  have bw22 : Below w.heap.size w w22 := bw21.trans (ht.mono bw21.size)
  have A0_22 := A0_21.below ht
  have BR0_22 := BR0_21.below ht
  have BX0_22 := BX0_21.below ht
  have BG0_22 := BG0_21.below ht
  have ⟨zA0_22, cA0_22, dA0_22⟩ := A0_22
  have ⟨zBR0_22, cBR0_22, dBR0_22, eBR0_22⟩ := BR0_22
  have ⟨zBX0_22, cBX0_22, dBX0_22⟩ := BX0_22
  have ⟨zBG0_22, cBG0_22, dBG0_22, eBG0_22⟩ := BG0_22
  have R0_22 := R0_21.below ht (Nat.le_refl _)
  have X0_22 := X0_21.below ht (Nat.le_refl _)
  have X1_22 := X1_21.below ht (Nat.le_refl _)
  have X2_22 := X2_21.below ht (Nat.le_refl _)
  have G0_22 := G0_21.below ht (Nat.le_refl _)
  clear A0_21 cA0_21 dA0_21 BR0_21 cBR0_21 dBR0_21 eBR0_21 BX0_21 cBX0_21 dBX0_21 BG0_21 cBG0_21 dBG0_21 eBG0_21 R0_21 X0_21 X1_21 X2_21 G0_21
  clear ht hb
  go_wp2_with fail
  clear X0_22 UX0
  clear X1_22 UX1
  clear X2_22 UX2
  refine (toOrder_any _ _ _ _ _ (hx0.below bw22) (by omega)).mono ?_
  rintro e w23 ⟨pV0, qV0, rfl, ho, hb⟩
  have ht : Below w22.heap.size w22 w23 := hb
  have z23 : w22.heap.size ≤ w23.heap.size := ht.size
  have bw23 : Below w.heap.size w w23 := bw22.trans (ht.mono bw22.size)
  have A0_23 := A0_22.below ht
  have BR0_23 := BR0_22.below ht
  have BX0_23 := BX0_22.below ht
  have BG0_23 := BG0_22.below ht
  have ⟨zA0_23, cA0_23, dA0_23⟩ := A0_23
  have ⟨zBR0_23, cBR0_23, dBR0_23, eBR0_23⟩ := BR0_23
  have ⟨zBX0_23, cBX0_23, dBX0_23⟩ := BX0_23
  have ⟨zBG0_23, cBG0_23, dBG0_23, eBG0_23⟩ := BG0_23
  have R0_23 := R0_22.below ht (Nat.le_refl _)
  have G0_23 := G0_22.below ht (Nat.le_refl _)
  clear A0_22 cA0_22 dA0_22 BR0_22 cBR0_22 dBR0_22 eBR0_22 BX0_22 cBX0_22 dBX0_22 BG0_22 cBG0_22 dBG0_22 eBG0_22 R0_22 G0_22
  have V0_23 := ho
  have UV0 := V0_23.cut (Nat.le_refl _)
  clear ho
  clear ht hb
  go_wp2_with fail
  refine (toIntS_any _ _ _ _ (hx1.below bw23) (by omega)).mono ?_
  rintro e w24 ⟨pV1, qV1, rfl, ho, hb⟩
  have ht : Below w23.heap.size w23 w24 := hb
  have z24 : w23.heap.size ≤ w24.heap.size := ht.size
  have bw24 : Below w.heap.size w w24 := bw23.trans (ht.mono bw23.size)
  have A0_24 := A0_23.below ht
  have BR0_24 := BR0_23.below ht
  have BX0_24 := BX0_23.below ht
  have BG0_24 := BG0_23.below ht
  have ⟨zA0_24, cA0_24, dA0_24⟩ := A0_24
  have ⟨zBR0_24, cBR0_24, dBR0_24, eBR0_24⟩ := BR0_24
  have ⟨zBX0_24, cBX0_24, dBX0_24⟩ := BX0_24
  have ⟨zBG0_24, cBG0_24, dBG0_24, eBG0_24⟩ := BG0_24
  have R0_24 := R0_23.below ht (Nat.le_refl _)
  have G0_24 := G0_23.below ht (Nat.le_refl _)
  have V0_24 := V0_23.below ht (Nat.le_refl _)
  clear A0_23 cA0_23 dA0_23 BR0_23 cBR0_23 dBR0_23 eBR0_23 BX0_23 cBX0_23 dBX0_23 BG0_23 cBG0_23 dBG0_23 eBG0_23 R0_23 G0_23 V0_23
  have V1_24 := ho
  have UV1 := V1_24.cut (Nat.le_refl _)
  clear ho
  clear ht hb
  go_wp2_with fail
  refine (toIntS_any _ _ _ _ (hx2.below bw24) (by omega)).mono ?_
  rintro e w25 ⟨pV2, qV2, rfl, ho, hb⟩
  have ht : Below w24.heap.size w24 w25 := hb
  have z25 : w24.heap.size ≤ w25.heap.size := ht.size
  have bw25 : Below w.heap.size w w25 := bw24.trans (ht.mono bw24.size)
  have A0_25 := A0_24.below ht
  have BR0_25 := BR0_24.below ht
  have BX0_25 := BX0_24.below ht
  have BG0_25 := BG0_24.below ht
  have ⟨zA0_25, cA0_25, dA0_25⟩ := A0_25
  have ⟨zBR0_25, cBR0_25, dBR0_25, eBR0_25⟩ := BR0_25
  have ⟨zBX0_25, cBX0_25, dBX0_25⟩ := BX0_25
  have ⟨zBG0_25, cBG0_25, dBG0_25, eBG0_25⟩ := BG0_25
  have R0_25 := R0_24.below ht (Nat.le_refl _)
  have G0_25 := G0_24.below ht (Nat.le_refl _)
  have V0_25 := V0_24.below ht (Nat.le_refl _)
  have V1_25 := V1_24.below ht (Nat.le_refl _)
  clear A0_24 cA0_24 dA0_24 BR0_24 cBR0_24 dBR0_24 eBR0_24 BX0_24 cBX0_24 dBX0_24 BG0_24 cBG0_24 dBG0_24 eBG0_24 R0_24 G0_24 V0_24 V1_24
  have V2_25 := ho
  have UV2 := V2_25.cut (Nat.le_refl _)
  clear ho
  clear ht hb
  go_wp2_with fail
  refine (iTabOrd_any _ _ _ _ _ _ _ _ _ _ _ hn0 (V0_25.rd) (V1_25.rd) (V2_25.rd)).mono ?_
  rintro e w26 ⟨pH0, qH0, rfl, ho0, hb⟩
  have ht : Below w25.heap.size w25 w26 := hb
  have z26 : w25.heap.size ≤ w26.heap.size := ht.size
  have bw26 : Below w.heap.size w w26 := bw25.trans (ht.mono bw25.size)
  have A0_26 := A0_25.below ht
  have BR0_26 := BR0_25.below ht
  have BX0_26 := BX0_25.below ht
  have BG0_26 := BG0_25.below ht
  have ⟨zA0_26, cA0_26, dA0_26⟩ := A0_26
  have ⟨zBR0_26, cBR0_26, dBR0_26, eBR0_26⟩ := BR0_26
  have ⟨zBX0_26, cBX0_26, dBX0_26⟩ := BX0_26
  have ⟨zBG0_26, cBG0_26, dBG0_26, eBG0_26⟩ := BG0_26
  have R0_26 := R0_25.below ht (Nat.le_refl _)
  have G0_26 := G0_25.below ht (Nat.le_refl _)
  have V0_26 := V0_25.below ht (Nat.le_refl _)
  have V1_26 := V1_25.below ht (Nat.le_refl _)
  have V2_26 := V2_25.below ht (Nat.le_refl _)
  clear A0_25 cA0_25 dA0_25 BR0_25 cBR0_25 dBR0_25 eBR0_25 BX0_25 cBX0_25 dBX0_25 BG0_25 cBG0_25 dBG0_25 eBG0_25 R0_25 G0_25 V0_25 V1_25 V2_25
  have H0_26 := ho0
  have UH0 := H0_26.cut (Nat.le_refl _)
  clear ho0
  clear ht hb
  go_wp2_with fail
  clear V0_26 UV0
  clear V1_26 UV1
  clear V2_26 UV2
  refine (eqTable_same _ _ _ _ (toL n0 xs0 xs1 xs2) _ _ _ (H0_26.rd.below (by repeat (first | exact Below.refl _ _ | assumption | refine Below.alloc ?_ (by first | exact Nat.le_refl _ | (simp only [World.size_alloc, World.size_setCell, World.size_drew]; omega) | omega) _ | refine Below.setCell ?_ (by first | exact Nat.le_refl _ | (simp only [World.size_alloc, World.size_setCell, World.size_drew]; omega) | omega) _ | refine Below.drew ?_))) (R0_26.rd.below (by repeat (first | exact Below.refl _ _ | assumption | refine Below.alloc ?_ (by first | exact Nat.le_refl _ | (simp only [World.size_alloc, World.size_setCell, World.size_drew]; omega) | omega) _ | refine Below.setCell ?_ (by first | exact Nat.le_refl _ | (simp only [World.size_alloc, World.size_setCell, World.size_drew]; omega) | omega) _ | refine Below.drew ?_)))).mono ?_
  rintro e w27 ⟨rfl, hb⟩
  have ht : Below w26.heap.size w26 w27 := Below.trans (by repeat (first | exact Below.refl _ _ | assumption | refine Below.alloc ?_ (by first | exact Nat.le_refl _ | (simp only [World.size_alloc, World.size_setCell, World.size_drew]; omega) | omega) _ | refine Below.setCell ?_ (by first | exact Nat.le_refl _ | (simp only [World.size_alloc, World.size_setCell, World.size_drew]; omega) | omega) _ | refine Below.drew ?_)) (hb.mono (by first | (simp only [World.size_alloc, World.size_setCell, World.size_drew]; omega) | omega))
  have z27 : w26.heap.size ≤ w27.heap.size := ht.size
  have bw27 : Below w.heap.size w w27 := bw26.trans (ht.mono bw26.size)
  have A0_27 := A0_26.below ht
  have BR0_27 := BR0_26.below ht
  have BX0_27 := BX0_26.below ht
  have BG0_27 := BG0_26.below ht
  have BH0_27 : Box3 w27 w26.heap.size (.int .i64 (toR n0 xs0 xs1 xs2)) (.int .i64 (toC n0 xs0 xs1 xs2)) (.slice pH0 (toL n0 xs0 xs1 xs2).length qH0) := (Box3.new w26 _ _ _ 27).below hb
  have ⟨zA0_27, cA0_27, dA0_27⟩ := A0_27
  have ⟨zBR0_27, cBR0_27, dBR0_27, eBR0_27⟩ := BR0_27
  have ⟨zBX0_27, cBX0_27, dBX0_27⟩ := BX0_27
  have ⟨zBG0_27, cBG0_27, dBG0_27, eBG0_27⟩ := BG0_27
  have ⟨zBH0_27, cBH0_27, dBH0_27, eBH0_27⟩ := BH0_27
  have R0_27 := R0_26.below ht (Nat.le_refl _)
  have G0_27 := G0_26.below ht (Nat.le_refl _)
  have H0_27 := H0_26.below ht (Nat.le_refl _)
  clear A0_26 cA0_26 dA0_26 BR0_26 cBR0_26 dBR0_26 eBR0_26 BX0_26 cBX0_26 dBX0_26 BG0_26 cBG0_26 dBG0_26 eBG0_26 R0_26 G0_26 H0_26
  clear ht hb
  go_wp2_with fail
  refine (heldTable_any _ _ _ _ _ _ _ (by omega) (by omega) hR0 G0_27.rd).mono ?_
  rintro e w28 ⟨rfl, hb⟩
  have ht : Below w27.heap.size w27 w28 := hb
  have z28 : w27.heap.size ≤ w28.heap.size := ht.size
  have bw28 : Below w.heap.size w w28 := bw27.trans (ht.mono bw27.size)
  have A0_28 := A0_27.below ht
  have BR0_28 := BR0_27.below ht
  have BX0_28 := BX0_27.below ht
  have BG0_28 := BG0_27.below ht
  have BH0_28 := BH0_27.below ht
  have ⟨zA0_28, cA0_28, dA0_28⟩ := A0_28
  have ⟨zBR0_28, cBR0_28, dBR0_28, eBR0_28⟩ := BR0_28
  have ⟨zBX0_28, cBX0_28, dBX0_28⟩ := BX0_28
  have ⟨zBG0_28, cBG0_28, dBG0_28, eBG0_28⟩ := BG0_28
  have ⟨zBH0_28, cBH0_28, dBH0_28, eBH0_28⟩ := BH0_28
  have R0_28 := R0_27.below ht (Nat.le_refl _)
  have G0_28 := G0_27.below ht (Nat.le_refl _)
  have H0_28 := H0_27.below ht (Nat.le_refl _)
  clear A0_27 cA0_27 dA0_27 BR0_27 cBR0_27 dBR0_27 eBR0_27 BX0_27 cBX0_27 dBX0_27 BG0_27 cBG0_27 dBG0_27 eBG0_27 BH0_27 cBH0_27 dBH0_27 eBH0_27 R0_27 G0_27 H0_27
  clear ht hb
  go_wp2_with fail
  go_ret
  exact ⟨rfl, bw28⟩

theorem rd_of_trod {H : Type} {enc : TypeId × Value → H} {W : World} {fuel : Nat} {c : Value} {y : DataW H × List MemPlace}
    (h : DataW.trod enc Try.prog W 0 (fun _ => true) true fuel 22 [c] = some y) : ∃ (a : Option Addr) (xs : List Int) (cap : Nat), c = .slice a xs.length cap ∧ Rd W a xs ∧ ∀ k, k < xs.length → (Lit.int .i64 (nth xs k)).wf = true := by
  rcases Go.ChangeShapes.open_ints Try.underlying22 Try.underlying3 (by kernel_rfl) h with ⟨hcs, _⟩ | ⟨x, len, cap, zs, hcs, _, hl, hm, hz, _, hcell, hwf⟩
  · simp only [List.cons.injEq, and_true] at hcs
    exact ⟨none, [], 0, hcs, ⟨by simp, fun k hk => by simp at hk⟩, fun k hk => by simp at hk⟩
  · simp only [List.cons.injEq, and_true] at hcs
    simp only [if_true] at hz
    have hlen : (zs.take len).length = len := by rw [List.length_take]; omega
    have hn : ∀ k, k < len → nth (zs.take len) k = zs.getD k 0 := by
      intro k hk
      simp only [nth, List.getD_eq_getElem?_getD, List.getElem?_take, hk, if_true]
    refine ⟨some x, zs.take len, cap, by rw [hlen]; exact hcs, ⟨by rw [hlen]; unfold maxLen at hm; omega, fun k hk => ?_⟩, fun k hk => ?_⟩
    · rw [hlen] at hk
      obtain ⟨b, off, sp⟩ := x
      have h0 := hcell 0 (by omega)
      have hsp : sp = none := by simpa [Addr.add] using World.cell?_spot h0
      subst hsp
      have hk' := hcell k (by omega)
      rw [Addr.add_lit] at hk'
      exact ⟨b, off, rfl, World.block_lt_of_cell? _ _ h0, by rw [hk', hn k hk]⟩
    · rw [hlen] at hk
      rw [hn k hk]
      have hk2 : k < zs.length := by omega
      exact hwf _ (by rw [List.getD_eq_getElem?_getD, List.getElem?_eq_getElem hk2]; exact List.getElem_mem hk2)

theorem own : ownKnob Try.prog.godebug = none := by kernel_rfl
theorem laidOut : laidOutB Try.prog = true := by kernel_rfl
theorem wf_bd {n : Int} (h : (Lit.int .i64 n).wf = true) : -9223372036854775808 ≤ n ∧ n ≤ 9223372036854775807 := by
  simp [Lit.wf, IntKind.min, IntKind.max, IntKind.bits, IntKind.signed] at h
  omega

theorem cellsO : Try.prog.cellsOf 43 = 2 := by kernel_rfl

open Go.ChangeShapes Go.WideShapes Go.ChangeAt Go.RowKit in
set_option maxRecDepth 100000 in
theorem lifted (os : Os) (started : os.Started) (H : Type) (enc : TypeId × Value → H) :
    ReturnsInHanded {} Try.checked os 9 .any (Rows.fnExactTableOfOrderSpec.pre6 enc Try.prog Try.f9 Rows.fnExactTableOfOrderRow.domain false) (Rows.fnExactTableOfOrderSpec.post enc Try.prog Try.f9 false true false false) := by
  refine returnsInHanded_of_change (C := Try.checked) own started (by kernel_rfl) Try.func9
    (ChangeSpec.witness6 (enc := enc) (C := Try.checked) false ⟨#[], #[.agg #[.int .i64 0, .slice none 0 0], .slice none 0 0, .slice none 0 0], []⟩ 8 (by kernel_rfl) (by kernel_rfl) (by kernel_rfl) (by kernel_rfl)) ?_
  intro W base args ds gs before hval0 hW hcnd _
  have hval : ∀ (j : Nat) t v, Try.f9.params[j]? = some t → args[j]? = some v → Value.okWide Try.prog W .any base t v := hval0
  have hW' := hW
  obtain ⟨p, q, hA0, hV, rfl, hfz, hnd⟩ := hW
  have hA : DataW.TrodAll enc Try.prog W 0 (fun _ => true) true Try.f9.params.toList args.toList ds p := hA0
  rw [Try.params9] at hA hval
  obtain ⟨v0, vs0, d0, ds0, p0, q0, hargs, rfl, rfl, h0, r0⟩ := trodAll_cons hA
  obtain ⟨v1, vs1, d1, ds1, p1, q1, rfl, rfl, rfl, h1, r1⟩ := trodAll_cons r0
  obtain ⟨v2, vs2, d2, ds2, p2, q2, rfl, rfl, rfl, h2, r2⟩ := trodAll_cons r1
  obtain ⟨rfl, rfl, rfl⟩ := trodAll_nil r2
  obtain rfl : args = #[v0, v1, v2] := by cases args; simp_all
  obtain ⟨rfl, rfl⟩ := trodVars_none hV
  have lt0 : ∀ x ∈ p0, x.block < W.heap.size := by obtain ⟨m, hm⟩ := h0; exact DataW.trod_lt m _ _ _ hm
  have lt1 : ∀ x ∈ p1, x.block < W.heap.size := by obtain ⟨m, hm⟩ := h1; exact DataW.trod_lt m _ _ _ hm
  have lt2 : ∀ x ∈ p2, x.block < W.heap.size := by obtain ⟨m, hm⟩ := h2; exact DataW.trod_lt m _ _ _ hm
  obtain ⟨c00, c01, y00, y01, m0, rfl, hd0, hp0, hy00, hy01⟩ := Go.Joins.open_agg2 Try.underlying43 (by kernel_rfl) cellsO (hval 0 43 v0 rfl rfl) h0
  obtain ⟨n0, e00, _, wf0⟩ := DataW.trod_int Try.underlying3 hy00
  simp only [List.cons.injEq, and_true] at e00
  subst e00
  obtain ⟨a0, xs0, cap0, rfl, rd0, wl0⟩ := rd_of_trod hy01
  obtain ⟨a1, len1, cap1, rfl⟩ := okWide_slice Try.underlying22 (hval 1 22 v1 rfl rfl)
  obtain ⟨a1, xs1, cap1, e1, rd1, wl1⟩ := (by obtain ⟨fu, hf⟩ := h1; simp only [Value.cells] at hf; exact rd_of_trod hf : ∃ (a : Option Addr) (xs : List Int) (cap : Nat), Value.slice a1 len1 cap1 = .slice a xs.length cap ∧ Rd W a xs ∧ ∀ k, k < xs.length → (Lit.int .i64 (nth xs k)).wf = true)
  simp only [Value.slice.injEq] at e1
  obtain ⟨rfl, rfl, rfl⟩ := e1
  obtain ⟨a2, len2, cap2, rfl⟩ := okWide_slice Try.underlying22 (hval 2 22 v2 rfl rfl)
  obtain ⟨a2, xs2, cap2, e2, rd2, wl2⟩ := (by obtain ⟨fu, hf⟩ := h2; simp only [Value.cells] at hf; exact rd_of_trod hf : ∃ (a : Option Addr) (xs : List Int) (cap : Nat), Value.slice a2 len2 cap2 = .slice a xs.length cap ∧ Rd W a xs ∧ ∀ k, k < xs.length → (Lit.int .i64 (nth xs k)).wf = true)
  simp only [Value.slice.injEq] at e2
  obtain ⟨rfl, rfl, rfl⟩ := e2
  clear hA0 hval0
  refine (walk n0 a0 xs0 cap0 a1 xs1 cap1 a2 xs2 cap2 W (wf_bd wf0) rd0 rd1 rd2).mono fun e W' ⟨he, bel⟩ => ?_
  subst he
  exact ⟨_, rfl, _, _, _, [], _, [], hW', trodAll_mk1 (shut_bool Try.underlying4 _), (trodAll_cons_mk (Below.trod laidOut (by kernel_rfl) (of_decide_eq_true (by kernel_rfl)) h0 bel lt0) (trodAll_cons_mk (Below.trod laidOut (by kernel_rfl) (of_decide_eq_true (by kernel_rfl)) h1 bel lt1) (trodAll_cons_mk (Below.trod laidOut (by kernel_rfl) (of_decide_eq_true (by kernel_rfl)) h2 bel lt2) trodAll_mk0))), rfl, bel.frame _, fun h => by cases h⟩
theorem proved : Rows.FnExactTableOfOrderSaid :=
  OpenClaim.holds_of_wide 9 Try.f9 rfl rfl rfl rfl rfl rfl rfl ⟨rfl, rfl, rfl, rfl, rfl⟩ rfl rfl rfl rfl rfl (by kernel_rfl) Try.func9 (by kernel_rfl)
    (of_decide_eq_true (by kernel_rfl)) (by unfold Func.isWrapper; first | (rw [if_pos (by decide +kernel)]; kernel_rfl) | (rw [if_neg (by decide +kernel)]; exact ⟨rfl, rfl⟩))
    (fun os started H enc _ => lifted os started H enc)

end Go.Proofs.Ytkfgeccgcffgaaa.tableOfOrder
