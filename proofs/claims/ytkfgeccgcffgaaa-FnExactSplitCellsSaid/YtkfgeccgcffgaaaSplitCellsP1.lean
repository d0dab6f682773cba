/- A part of the proof of YtkfgeccgcffgaaaSplitCells: contracts of functions. -/
import Derived.Test.YtkfgeccgcffgaaaRows
import Derived.WalkKit
import Derived.WalkSpells
import Derived.WalkLawsBesides
import Derived.Deep.QuietTactic
import Derived.BigQuiet
import Derived.ProofKit
import Derived.OpenShut
import Derived.ShutString
import Derived.ChangeOld
import Derived.Below
import Derived.Lib.SmallJoins
import Derived.Lib.Hide
import Derived.Maps.AppendAt
import Derived.Deep.AppendLies
import Derived.Deep.RegionHeld3
import Derived.Deep.RegionLaw
import Derived.Lib.SliceRun
import Derived.Laws.MakeOwn
import Derived.Laws.OwnMore
import Derived.Deep.DeepCutAuto
namespace Go.Proofs.Ytkfgeccgcffgaaa.splitCells
open Go Go.RowKit
set_option linter.unusedVariables false
set_option linter.unusedSimpArgs false
set_option maxHeartbeats 400000


/-- a number of a list; a plain function, which the walk leaves alone -/
def nth (xs : List Int) (k : Nat) : Int := xs.getD k 0
theorem nth_get (xs : List Int) (k : Nat) (h : k < xs.length) : nth xs k = xs[k] := by simp [nth, h]
/-- the slice at an address reads as a list -/
structure Rd (w : World) (a : Option Addr) (xs : List Int) : Prop where
  len : xs.length ≤ 9223372036854775807
  cell : ∀ k, k < xs.length → ∃ b off, a = some ⟨b, off, none⟩ ∧ b < w.heap.size ∧ w.cell? ⟨b, off + k, none⟩ = some (.int .i64 (nth xs k))
theorem Rd.below {w w' : World} {a : Option Addr} {xs : List Int} (h : Rd w a xs) (hb : Below w.heap.size w w') : Rd w' a xs :=
  ⟨h.len, fun k hk => by
    obtain ⟨b, off, e, hl, hc⟩ := h.cell k hk
    exact ⟨b, off, e, Nat.lt_of_lt_of_le hl hb.size, (hb.cell (World.block_lt_of_cell? _ _ hc)).trans hc⟩⟩
theorem Rd.mid {w w1 w2 : World} {a : Option Addr} {xs : List Int} {B : Nat} (h : Rd w a xs) (hb : Below B w1 w2) (hB : w.heap.size ≤ B) (h1 : Rd w1 a xs) : Rd w2 a xs :=
  ⟨h.len, fun k hk => by
    obtain ⟨b, off, e, hl, hc⟩ := h.cell k hk
    obtain ⟨b', off', e', hl', hc'⟩ := h1.cell k hk
    rw [e] at e'
    simp only [Option.some.injEq, Addr.mk.injEq, and_true] at e'
    obtain ⟨rfl, rfl⟩ := e'
    exact ⟨b, off, e, Nat.lt_of_lt_of_le hl' hb.size, (hb.cell (by show b < B; omega)).trans hc'⟩⟩
theorem Rd.alloc {w : World} {a : Option Addr} {xs : List Int} (h : Rd w a xs) (o : Obj) : Rd (w.alloc o) a xs :=
  h.below ((Below.refl _ _).alloc (Nat.le_refl _) o)
theorem Rd.same {w w' : World} {a : Option Addr} {xs : List Int} (h : Rd w a xs) (hs : w.heap.size ≤ w'.heap.size)
    (hb : ∀ b off, a = some ⟨b, off, none⟩ → w'.heap[b]? = w.heap[b]?) : Rd w' a xs :=
  ⟨h.len, fun k hk => by
    obtain ⟨b, off, e, hl, hc⟩ := h.cell k hk
    exact ⟨b, off, e, Nat.lt_of_lt_of_le hl hs, (World.cell?_of_block (w := w) (a := ⟨b, off + k, none⟩) (hb b off e)).trans hc⟩⟩
/-- a slice value that owns the row of these integers, in a block from B on -/
def OwnI (w : World) (B : Nat) (v : Value) (xs : List Int) : Prop := w.ownsRow B 3 1 v xs.length (xs.map (Value.int .i64))
theorem OwnI.form {w : World} {B : Nat} {v : Value} {xs : List Int} (h : OwnI w B v xs) : ∃ a cap, v = .slice a xs.length cap := by
  rcases h.2 with ⟨rfl, h0⟩ | ⟨g, cap, cur, rfl, _⟩
  · exact ⟨none, 0, by rw [h0]⟩
  · exact ⟨_, _, rfl⟩
theorem OwnI.rd {w : World} {B n cap : Nat} {a : Option Addr} {xs : List Int} (h : OwnI w B (.slice a n cap) xs) : Rd w a xs := by
  rcases h.2 with ⟨e, h0⟩ | ⟨g, cap', cur, e, hb, hg, hn, hm, hs, ht⟩
  · exact ⟨by omega, fun k hk => by omega⟩
  · simp only [Value.slice.injEq] at e
    obtain ⟨rfl, rfl, rfl⟩ := e
    refine ⟨by unfold maxLen at hm; omega, fun k hk => ⟨g, 0, rfl, (Array.getElem?_eq_some_iff.1 hg).1, ?_⟩⟩
    have := World.ownsRow.cellAt h k (by omega)
    rw [Nat.zero_add, this]
    simp [nth, hk]
theorem OwnI.blk {w : World} {B n cap : Nat} {a : Option Addr} {xs : List Int} (h : OwnI w B (.slice a n cap) xs) : ∀ b off s, a = some ⟨b, off, s⟩ → B ≤ b ∧ b < w.heap.size := by
  intro b off s e
  subst e
  exact World.ownsRow.lt h b rfl
theorem OwnI.kept {w w' : World} {B : Nat} {v : Value} {xs : List Int} {row : Option Nat} (h : OwnI w B v xs) (hg : w.grownBy w' row) (hne : v.ownBlock = none ∨ v.ownBlock ≠ row) : OwnI w' B v xs := World.ownsRow.kept h hg hne
theorem OwnI.mono {w : World} {B B' : Nat} {v : Value} {xs : List Int} (h : OwnI w B v xs) (hB : B' ≤ B) : OwnI w B' v xs := by
  refine ⟨h.1, ?_⟩
  rcases h.2 with hn | ⟨g, cap, cur, e, hb, rest⟩
  · exact .inl hn
  · exact .inr ⟨g, cap, cur, e, by omega, rest⟩
theorem OwnI.below {w w' : World} {B B' : Nat} {v : Value} {xs : List Int} (h : OwnI w B v xs) (hb : Below B' w w') (hB : w.heap.size ≤ B') : OwnI w' B v xs := by
  refine ⟨h.1, ?_⟩
  rcases h.2 with hn | ⟨g, cap, cur, e, hb', hg, rest⟩
  · exact .inl hn
  · refine .inr ⟨g, cap, cur, e, hb', ?_, rest⟩
    rw [hb.block g (by have := (Array.getElem?_eq_some_iff.1 hg).1; omega)]
    exact hg
theorem ret_bool {a b : Bool} (h : a = b) : Ending.returned (.bool a) = .returned (.bool b) := by rw [h]
theorem ret_int {a b : Int} (h : a = b) : Ending.returned (.int .i64 a) = .returned (.int .i64 b) := by rw [h]
theorem val_int {a b : Int} (h : a = b) : Value.int .i64 a = .int .i64 b := by rw [h]
theorem grown_below {w w' : World} {g : Nat} (h : w.grownBy w' (some g)) (B : Nat) (hB : B ≤ g) (hs : B ≤ w.heap.size) : Below B w w' :=
  ⟨h.os, h.tape, h.output, h.size, fun k hk => h.block k (by omega) (by intro e; simp only [Option.some.injEq] at e; omega)⟩
theorem below_grown {w w' : World} {B : Nat} (h : Below B w w') (hB : w.heap.size ≤ B) (row : Option Nat) : w.grownBy w' row :=
  ⟨h.os, h.tape, h.output, h.size, fun k hk _ => h.block k (by omega)⟩
theorem bcell {W w1 : World} (hb : Below W.heap.size W w1) : (∀ b o, b < W.heap.size → w1.cell? ⟨b, o, none⟩ = W.cell? ⟨b, o, none⟩) ∧ (∀ b o, b < W.heap.size → w1.frozen? ⟨b, o, none⟩ = W.frozen? ⟨b, o, none⟩) :=
  ⟨fun b o h => hb.cell (p := ⟨b, o, none⟩) h, fun b o h => hb.frozen (p := ⟨b, o, none⟩) h⟩
theorem infoInt : (Try.prog.info? 3).map (fun i => (i.zero, i.size, i.bytes)) = some (some (.int .i64 0), 1, 8) := by kernel_rfl
theorem OwnI.setBelow {w : World} {B : Nat} {v : Value} {xs : List Int} (h : OwnI w B v xs) {p : Addr} (hp : p.block < B) (u : Value) : OwnI (w.setCell p u) B v xs := ownsRow_setCell_below h hp u
theorem OwnI.alloc {w : World} {B : Nat} {v : Value} {xs : List Int} (h : OwnI w B v xs) (o : Obj) : OwnI (w.alloc o) B v xs := h.below ((Below.refl _ _).alloc (Nat.le_refl _) o) (Nat.le_refl _)
theorem Below.mono' {B B' : Nat} {w w' : World} (h : Below B w w') (hB : B' ≤ B) : Below B' w w' := h.mono hB
/-- a block that holds two cells -/
def Box2 (w : World) (b : Nat) (u v : Value) : Prop := b < w.heap.size ∧ w.cell? ⟨b, 0, none⟩ = some u ∧ w.cell? ⟨b, 1, none⟩ = some v
theorem Box2.below {w w' : World} {b : Nat} {u v : Value} (h : Box2 w b u v) (hb : Below w.heap.size w w') : Box2 w' b u v :=
  ⟨Nat.lt_of_lt_of_le h.1 hb.size, (hb.cell (p := ⟨b, 0, none⟩) h.1).trans h.2.1, (hb.cell (p := ⟨b, 1, none⟩) h.1).trans h.2.2⟩
theorem Box2.new (w : World) (u v : Value) (t : TypeId) : Box2 (w.alloc (.cells #[u, v] t)) w.heap.size u v :=
  ⟨by simp, by simp, by simp⟩
theorem Box2.kept {w w' : World} {b : Nat} {u v : Value} {row : Option Nat} (h : Box2 w b u v) (hg : w.grownBy w' row) (hne : some b ≠ row) : Box2 w' b u v :=
  ⟨Nat.lt_of_lt_of_le h.1 hg.size, hg.cell h.2.1 hne, hg.cell h.2.2 hne⟩
theorem OwnI.lt {w : World} {B : Nat} {v : Value} {xs : List Int} (h : OwnI w B v xs) : ∀ b, v.ownBlock = some b → B ≤ b ∧ b < w.heap.size := World.ownsRow.lt h
theorem OwnI.cut {w : World} {B : Nat} {v : Value} {xs : List Int} (h : OwnI w B v xs) {U : Nat} (hU : w.heap.size ≤ U) : ∀ b, v.ownBlock = some b → B ≤ b ∧ b < U := fun b e => ⟨(h.lt b e).1, Nat.lt_of_lt_of_le (h.lt b e).2 hU⟩
/-- a block of two cells that may be written -/
def Var2 (w : World) (b : Nat) (u v : Value) : Prop := Box2 w b u v ∧ w.frozen? ⟨b, 0, none⟩ = false ∧ w.frozen? ⟨b, 1, none⟩ = false
theorem Var2.below {w w' : World} {b : Nat} {u v : Value} (h : Var2 w b u v) (hb : Below w.heap.size w w') : Var2 w' b u v :=
  ⟨h.1.below hb, (hb.frozen (p := ⟨b, 0, none⟩) h.1.1).trans h.2.1, (hb.frozen (p := ⟨b, 1, none⟩) h.1.1).trans h.2.2⟩
theorem Var2.new (w : World) (u v : Value) (t : TypeId) : Var2 (w.alloc (.cells #[u, v] t)) w.heap.size u v :=
  ⟨Box2.new w u v t, by simp, by simp⟩
theorem Var2.alloc {w : World} {b : Nat} {u v : Value} (h : Var2 w b u v) (o : Obj) : Var2 (w.alloc o) b u v := h.below ((Below.refl _ _).alloc (Nat.le_refl _) o)
theorem Var2.kept {w w' : World} {b : Nat} {u v : Value} {row : Option Nat} (h : Var2 w b u v) (hg : w.grownBy w' row) (hne : some b ≠ row) : Var2 w' b u v :=
  ⟨h.1.kept hg hne, (World.frozen?_of_block (w := w) (a := ⟨b, 0, none⟩) (hg.block b h.1.1 hne)).trans h.2.1, (World.frozen?_of_block (w := w) (a := ⟨b, 1, none⟩) (hg.block b h.1.1 hne)).trans h.2.2⟩
theorem Var2.set {w : World} {b : Nat} {u v : Value} (h : Var2 w b u v) (u' v' : Value) : Var2 ((w.setCell ⟨b, 0, none⟩ u').setCell ⟨b, 1, none⟩ v') b u' v' := by
  refine ⟨⟨by simpa using h.1.1, ?_, ?_⟩, by simpa using h.2.1, by simpa using h.2.2⟩
  · rw [World.cell?_setCell_other _ _ _ _ (by simp), World.cell?_setCell_same _ _ _ h.1.2.1]
  · rw [World.cell?_setCell_same _ _ _ (u := v) (by rw [World.cell?_setCell_other _ _ _ _ (by simp)]; exact h.1.2.2)]
theorem grown_set (w : World) (p : Addr) (u : Value) : w.grownBy (w.setCell p u) (some p.block) :=
  ⟨rfl, rfl, rfl, by simp, fun k hk hn => Below.heap_setCell w p u k (fun e => hn (by rw [e]))⟩
theorem Var2.set1 {w : World} {b : Nat} {u v : Value} (h : Var2 w b u v) (v' : Value) : Var2 (w.setCell ⟨b, 1, none⟩ v') b u v' := by
  refine ⟨⟨by simpa using h.1.1, ?_, ?_⟩, by simpa using h.2.1, by simpa using h.2.2⟩
  · rw [World.cell?_setCell_other _ _ _ _ (by simp)]; exact h.1.2.1
  · rw [World.cell?_setCell_same _ _ _ h.1.2.2]
theorem Box2.set {w : World} {b : Nat} {u v : Value} (h : Box2 w b u v) {p : Addr} (x : Value) (hne : b ≠ p.block) : Box2 (w.setCell p x) b u v :=
  h.kept (grown_set w p x) (by simpa using hne)
theorem Var2.other {w : World} {b : Nat} {u v : Value} (h : Var2 w b u v) {p : Addr} (x : Value) (hne : b ≠ p.block) : Var2 (w.setCell p x) b u v :=
  h.kept (grown_set w p x) (by simpa using hne)
theorem ne_own {v : Value} {b : Nat} (h : ∀ c, v.ownBlock = some c → c ≠ b) : some b ≠ v.ownBlock := fun e => h b e.symm rfl
theorem grown_alloc_set {w w1 : World} {r : Option Nat} {o : Obj} (h : (w.alloc o).grownBy w1 r) : w.grownBy w1 r :=
  ⟨h.os, h.tape, h.output, by have := h.size; simp at this; omega, fun k hk hn => (h.block k (by simp; omega) hn).trans (Below.heap_alloc w o k hk)⟩
theorem grown_trans {w w1 w2 : World} {r : Option Nat} (h1 : w.grownBy w1 r) (h2 : w1.grownBy w2 r) : w.grownBy w2 r :=
  ⟨h2.os.trans h1.os, h2.tape.trans h1.tape, h2.output.trans h1.output, Nat.le_trans h1.size h2.size, fun k hk hn => (h2.block k (by have := h1.size; omega) hn).trans (h1.block k hk hn)⟩
theorem OwnI.nil (w : World) (B : Nat) : OwnI w B (.slice none 0 0) [] := World.ownsRow_nil _ _ _ _
theorem below_of_grown {w w' : World} {v : Value} {B : Nat} (hg : w.grownBy w' v.ownBlock) (hB : ∀ b, v.ownBlock = some b → B ≤ b) (hs : B ≤ w.heap.size) : Below B w w' :=
  ⟨hg.os, hg.tape, hg.output, hg.size, fun k hk => hg.block k (by omega) (fun e => by have := hB k e.symm; omega)⟩

def szF (left : Int) (n : Nat) : Int := if left - n < 0 then -1 else left - n
theorem szIntS_any (a : Option Addr) (n cap : Nat) (l : Int) (w : World) (h0 : 0 ≤ l) (h1 : l ≤ 1048576) (hn : n ≤ 9223372036854775807) :
    Calls Try.prog 52 #[.slice a n cap, .int .i64 l] w fun e w' => e = .returned (.int .i64 (szF l n)) ∧ w = w' := by
  by_cases h : l - n < 0
  · go_enter Try.func52, Try.ntmps52
    go_wp2
    go_ret
    exact ⟨ret_int (by simp [szF, h]), rfl⟩
  · go_enter Try.func52, Try.ntmps52
    go_wp2
    go_ret
    exact ⟨ret_int (by rw [szF, if_neg (by omega)]), rfl⟩

theorem szTable_any (n m : Int) (a : Option Addr) (len cap : Nat) (l : Int) (w : World) (h0 : 0 ≤ l) (h1 : l ≤ 1048576) (hn : len ≤ 9223372036854775807) :
    Calls Try.prog 15 #[.agg #[.int .i64 n, .int .i64 m, .slice a len cap], .int .i64 l] w fun e w' => e = .returned (.int .i64 (szF l len)) ∧ Below w.heap.size w w' := by
  by_cases h : l - len < 0
  · have hs : szF l len = -1 := by simp [szF, h]
    rw [hs]
    have HS := Lib.hid hs
    clear hs
    go_enter Try.func15, Try.ntmps15
    go_wp2_with (go_at_call 52; refine (szIntS_any _ _ _ _ _ h0 h1 hn).mono ?_; rintro e w' ⟨rfl, rfl⟩; rw [HS.out])
    go_ret
    exact ⟨rfl, (Below.refl _ _).alloc (Nat.le_refl _) _⟩
  · have hs : szF l len = l - len := by rw [szF, if_neg (by omega)]
    have hp : 0 ≤ szF l len := by omega
    clear hs
    go_enter Try.func15, Try.ntmps15
    go_wp2_with (go_at_call 52; refine (szIntS_any _ _ _ _ _ h0 h1 hn).mono ?_; rintro e w' ⟨rfl, rfl⟩)
    go_ret
    exact ⟨rfl, (Below.refl _ _).alloc (Nat.le_refl _) _⟩
theorem szTable_ok {n m : Int} {a : Option Addr} {len cap : Nat} {l : Int} {w : World} (h1 : l ≤ 1048576) (h : len ≤ l) :
    Calls Try.prog 15 #[.agg #[.int .i64 n, .int .i64 m, .slice a len cap], .int .i64 l] w fun e w' => e = .returned (.int .i64 (l - len)) ∧ Below w.heap.size w w' :=
  (szTable_any n m a len cap l w (by omega) h1 (by omega)).mono (fun e w' hh => ⟨by rw [hh.1, szF, if_neg (by omega)], hh.2⟩)
theorem szTable_no {n m : Int} {a : Option Addr} {len cap : Nat} {l : Int} {w : World} (h0 : 0 ≤ l) (h1 : l ≤ 1048576) (h : l < len) (hl : len ≤ 9223372036854775807) :
    Calls Try.prog 15 #[.agg #[.int .i64 n, .int .i64 m, .slice a len cap], .int .i64 l] w fun e w' => e = .returned (.int .i64 (-1)) ∧ Below w.heap.size w w' :=
  (szTable_any n m a len cap l w h0 h1 hl).mono (fun e w' hh => ⟨by rw [hh.1, szF, if_pos (by omega)], hh.2⟩)

theorem set_step (xs : List Int) (k : Nat) (h : k < xs.length) :
    ((xs.take k ++ List.replicate (xs.length - k) (0:Int)).map (Value.int .i64)).set k (.int .i64 (nth xs k)) = (xs.take (k+1) ++ List.replicate (xs.length - (k+1)) (0:Int)).map (Value.int .i64) := by
  apply List.ext_getElem?
  intro j
  have hk : (xs.take k).length = k := by simp; omega
  have hk1 : (xs.take (k+1)).length = k+1 := by simp; omega
  rw [List.getElem?_set]
  by_cases hj : k = j
  · subst hj
    rw [if_pos rfl, if_pos (by simp; omega), List.getElem?_map, List.getElem?_append_left (by omega)]
    simp [nth, h]
  · simp only [hj, if_false, List.getElem?_map, List.getElem?_append, hk, hk1, List.getElem?_take, List.getElem?_replicate]
    by_cases h1 : j < k
    · have h2 : j < k + 1 := by omega
      simp [h1, h2]
    · have h2 : ¬ j < k + 1 := by omega
      have h3 : j - k < xs.length - k ↔ j - (k+1) < xs.length - (k+1) := by omega
      simp [h1, h2, h3]
theorem toIntS_any (a : Option Addr) (xs : List Int) (cap : Nat) (w : World) (hx : Rd w a xs) (hn : xs.length ≤ 1048576) :
    Calls Try.prog 38 #[.slice a xs.length cap] w fun e w' => ∃ a' cap', e = .returned (.slice a' xs.length cap') ∧ OwnI w' w.heap.size (.slice a' xs.length cap') xs ∧ Below w.heap.size w w' := by
  obtain ⟨i0, hi, hz0, hz1, hz2⟩ := info_parts infoInt
  go_enter Try.func38, Try.ntmps38
  go_wp2_with (at_make; refine wpList_make_full _ rfl (.tmp 6) (.tmp 6) 22 rfl w.heap.size 3 i0 (.int .i64 0) 1 Try.underlying22 hi hz0 hz1 .i64 .i64 _ _ xs.length rfl rfl rfl rfl (by rw [hz2]; omega) (by unfold maxLen; omega) (Nat.le_refl _) ?_; intro w1 hown hgrow)
  have hb0 : Below w.heap.size w w1 := (Below.refl _ _).grown hgrow (Nat.le_refl _) (fun k h => by cases h)
  have hown0 : w1.ownsRow w.heap.size 3 1 (.slice (some ⟨w.heap.size, 0, none⟩) xs.length xs.length) xs.length ((xs.take 0 ++ List.replicate (xs.length - 0) (0:Int)).map (Value.int .i64)) := by
    simpa [Value.cells, toList_madeCells_one] using hown
  clear hown hgrow
  have hz : w.heap.size < w1.heap.size := by
    have := (World.ownsRow.lt hown0 w.heap.size rfl).2
    omega
  go_loopw [4] (fun i wr => ∃ k : Nat, k ≤ xs.length ∧ i = .int .i64 k ∧ wr.ownsRow w.heap.size 3 1 (.slice (some ⟨w.heap.size, 0, none⟩) xs.length xs.length) xs.length ((xs.take k ++ List.replicate (xs.length - k) (0:Int)).map (Value.int .i64)) ∧ Below w.heap.size w wr) (fun i _ => xs.length - (intOf i).toNat)
  case atStart => exact ⟨0, Nat.zero_le _, rfl, hown0, hb0⟩
  case round =>
    obtain ⟨k, hk, rfl, hown, hb⟩ := hrel
    by_cases hlt : k < xs.length
    · obtain ⟨b, off, rfl, hbl, hc⟩ := hx.cell k hlt
      have hc1 := (hb.cell (p := ⟨b, off + k, none⟩) hbl).trans hc
      have hst := World.ownsRow.stored hown k (.int .i64 (nth xs k))
      rw [set_step xs k hlt] at hst
      have hcc := World.ownsRow.cellAt hown k (by omega)
      have hfr := World.ownsRow.frozenAt hown k
      have hcc' : ∃ u, wr.cell? ⟨w.heap.size, k, none⟩ = some u := by
        rw [hcc]
        exact ⟨_, List.getElem?_eq_getElem (by simp; omega)⟩
      obtain ⟨u, hu⟩ := hcc'
      have Hst := Lib.hid hst
      clear hst hcc hown hc
      go_wp2
      go_roundw
      case rel => exact ⟨k + 1, by omega, by go_num, Hst.out.1, hb.setCell (Nat.le_refl _) _⟩
      case measure => simp [intOf]; omega
    · obtain rfl : k = xs.length := by omega
      go_wp2
      go_ret
      refine ⟨_, _, rfl, ?_, hb⟩
      have : xs.take xs.length ++ List.replicate (xs.length - xs.length) (0:Int) = xs := by simp
      rw [this] at hown
      exact hown

/-- a block that begins with these three cells -/
def Box3 (w : World) (b : Nat) (u v x : Value) : Prop := b < w.heap.size ∧ w.cell? ⟨b, 0, none⟩ = some u ∧ w.cell? ⟨b, 1, none⟩ = some v ∧ w.cell? ⟨b, 2, none⟩ = some x
theorem Box3.below {w w' : World} {b : Nat} {u v x : Value} (h : Box3 w b u v x) (hb : Below w.heap.size w w') : Box3 w' b u v x :=
  ⟨Nat.lt_of_lt_of_le h.1 hb.size, (hb.cell (p := ⟨b, 0, none⟩) h.1).trans h.2.1, (hb.cell (p := ⟨b, 1, none⟩) h.1).trans h.2.2.1, (hb.cell (p := ⟨b, 2, none⟩) h.1).trans h.2.2.2⟩
theorem Box3.new (w : World) (u v x : Value) (t : TypeId) : Box3 (w.alloc (.cells #[u, v, x] t)) w.heap.size u v x := ⟨by simp, by simp, by simp, by simp⟩
theorem Box3.kept {w w' : World} {b : Nat} {u v x : Value} {row : Option Nat} (h : Box3 w b u v x) (hg : w.grownBy w' row) (hne : some b ≠ row) : Box3 w' b u v x :=
  ⟨Nat.lt_of_lt_of_le h.1 hg.size, hg.cell h.2.1 hne, hg.cell h.2.2.1 hne, hg.cell h.2.2.2 hne⟩
theorem Box3.alloc {w : World} {b : Nat} {u v x : Value} (h : Box3 w b u v x) (o : Obj) : Box3 (w.alloc o) b u v x := h.below ((Below.refl _ _).alloc (Nat.le_refl _) o)
theorem Box3.set {w : World} {b : Nat} {u v x : Value} (h : Box3 w b u v x) {p : Addr} (y : Value) (hne : b ≠ p.block) : Box3 (w.setCell p y) b u v x :=
  h.kept (grown_set w p y) (by simpa using hne)
/-- three cells that may be written -/
def Var3 (w : World) (b : Nat) (u v x : Value) : Prop := Box3 w b u v x ∧ w.frozen? ⟨b, 0, none⟩ = false ∧ w.frozen? ⟨b, 1, none⟩ = false ∧ w.frozen? ⟨b, 2, none⟩ = false
theorem Var3.new (w : World) (u v x : Value) (t : TypeId) : Var3 (w.alloc (.cells #[u, v, x] t)) w.heap.size u v x := ⟨Box3.new w u v x t, by simp, by simp, by simp⟩
theorem Var3.below {w w' : World} {b : Nat} {u v x : Value} (h : Var3 w b u v x) (hb : Below w.heap.size w w') : Var3 w' b u v x :=
  ⟨h.1.below hb, (hb.frozen (p := ⟨b, 0, none⟩) h.1.1).trans h.2.1, (hb.frozen (p := ⟨b, 1, none⟩) h.1.1).trans h.2.2.1, (hb.frozen (p := ⟨b, 2, none⟩) h.1.1).trans h.2.2.2⟩
theorem Var3.alloc {w : World} {b : Nat} {u v x : Value} (h : Var3 w b u v x) (o : Obj) : Var3 (w.alloc o) b u v x := h.below ((Below.refl _ _).alloc (Nat.le_refl _) o)
theorem Var3.kept {w w' : World} {b : Nat} {u v x : Value} {row : Option Nat} (h : Var3 w b u v x) (hg : w.grownBy w' row) (hne : some b ≠ row) : Var3 w' b u v x :=
  ⟨h.1.kept hg hne, (World.frozen?_of_block (w := w) (a := ⟨b, 0, none⟩) (hg.block b h.1.1 hne)).trans h.2.1, (World.frozen?_of_block (w := w) (a := ⟨b, 1, none⟩) (hg.block b h.1.1 hne)).trans h.2.2.1, (World.frozen?_of_block (w := w) (a := ⟨b, 2, none⟩) (hg.block b h.1.1 hne)).trans h.2.2.2⟩
theorem Var3.other {w : World} {b : Nat} {u v x : Value} (h : Var3 w b u v x) {p : Addr} (y : Value) (hne : b ≠ p.block) : Var3 (w.setCell p y) b u v x :=
  h.kept (grown_set w p y) (by simpa using hne)
theorem Var3.set0 {w : World} {b : Nat} {u v x : Value} (h : Var3 w b u v x) (y : Value) : Var3 (w.setCell ⟨b, 0, none⟩ y) b y v x :=
  ⟨⟨by simpa using h.1.1, World.cell?_setCell_same _ _ _ h.1.2.1, by rw [World.cell?_setCell_other _ _ _ _ (by simp)]; exact h.1.2.2.1, by rw [World.cell?_setCell_other _ _ _ _ (by simp)]; exact h.1.2.2.2⟩, by simpa using h.2.1, by simpa using h.2.2.1, by simpa using h.2.2.2⟩
theorem Var3.set1 {w : World} {b : Nat} {u v x : Value} (h : Var3 w b u v x) (y : Value) : Var3 (w.setCell ⟨b, 1, none⟩ y) b u y x :=
  ⟨⟨by simpa using h.1.1, by rw [World.cell?_setCell_other _ _ _ _ (by simp)]; exact h.1.2.1, World.cell?_setCell_same _ _ _ h.1.2.2.1, by rw [World.cell?_setCell_other _ _ _ _ (by simp)]; exact h.1.2.2.2⟩, by simpa using h.2.1, by simpa using h.2.2.1, by simpa using h.2.2.2⟩
theorem Var3.set2 {w : World} {b : Nat} {u v x : Value} (h : Var3 w b u v x) (y : Value) : Var3 (w.setCell ⟨b, 2, none⟩ y) b u v y :=
  ⟨⟨by simpa using h.1.1, by rw [World.cell?_setCell_other _ _ _ _ (by simp)]; exact h.1.2.1, by rw [World.cell?_setCell_other _ _ _ _ (by simp)]; exact h.1.2.2.1, World.cell?_setCell_same _ _ _ h.1.2.2.2⟩, by simpa using h.2.1, by simpa using h.2.2.1, by simpa using h.2.2.2⟩
theorem Var3.set {w : World} {b : Nat} {u v x : Value} (h : Var3 w b u v x) (u' v' x' : Value) : Var3 (((w.setCell ⟨b, 0, none⟩ u').setCell ⟨b, 1, none⟩ v').setCell ⟨b, 2, none⟩ x') b u' v' x' := ((h.set0 u').set1 v').set2 x'

theorem toTable_any (n m : Int) (a : Option Addr) (xs : List Int) (cap : Nat) (w : World) (hx : Rd w a xs) (hn : xs.length ≤ 1048576) :
    Calls Try.prog 17 #[.agg #[.int .i64 n, .int .i64 m, .slice a xs.length cap]] w fun e w' => ∃ a' cap', e = .returned (.agg #[.int .i64 n, .int .i64 m, .slice a' xs.length cap']) ∧ OwnI w' w.heap.size (.slice a' xs.length cap') xs ∧ Below w.heap.size w w' := by
  go_enter Try.func17, Try.ntmps17
  go_wp2_with fail
  refine (toIntS_any _ _ _ _ (hx.below (by repeat (first | exact Below.refl _ _ | assumption | refine Below.alloc ?_ (by first | exact Nat.le_refl _ | (simp only [World.size_alloc, World.size_setCell, World.size_drew]; omega) | omega) _ | refine Below.setCell ?_ (by first | exact Nat.le_refl _ | (simp only [World.size_alloc, World.size_setCell, World.size_drew]; omega) | omega) _ | refine Below.drew ?_))) hn).mono ?_
  rintro e w1 ⟨a', cap', rfl, hown, hb⟩
  obtain ⟨hc, hf⟩ := bcell hb
  have hz := hb.size
  simp only [World.size_alloc, World.size_setCell] at hz
  go_wp2
  have hown' := (((((hown.setBelow (p := ⟨w.heap.size + 1 + 1, 2, none⟩) (by first | (simp only [World.size_alloc, World.size_setCell, World.size_drew]; omega) | omega) (.slice a' xs.length cap')).setBelow (p := ⟨w.heap.size + 1, 0, none⟩) (by first | (simp only [World.size_alloc, World.size_setCell, World.size_drew]; omega) | omega) (.int .i64 n)).setBelow (p := ⟨w.heap.size + 1, 1, none⟩) (by first | (simp only [World.size_alloc, World.size_setCell, World.size_drew]; omega) | omega) (.int .i64 m)).setBelow (p := ⟨w.heap.size + 1, 2, none⟩) (by first | (simp only [World.size_alloc, World.size_setCell, World.size_drew]; omega) | omega) (.slice a' xs.length cap'))).mono (B' := w.heap.size) (by first | (simp only [World.size_alloc, World.size_setCell, World.size_drew]; omega) | omega)
  have hb' : Below w.heap.size w w1 := Below.trans (by repeat (first | exact Below.refl _ _ | assumption | refine Below.alloc ?_ (by first | exact Nat.le_refl _ | (simp only [World.size_alloc, World.size_setCell, World.size_drew]; omega) | omega) _ | refine Below.setCell ?_ (by first | exact Nat.le_refl _ | (simp only [World.size_alloc, World.size_setCell, World.size_drew]; omega) | omega) _ | refine Below.drew ?_)) (hb.mono (by first | (simp only [World.size_alloc, World.size_setCell, World.size_drew]; omega) | omega))
  refine bodyPost_ret (v := .agg #[.int .i64 n, .int .i64 m, .slice a' xs.length cap']) (by simp [results, Try.results17, go_sem, hc]) rfl ⟨a', cap', rfl, hown', ?_⟩
  exact (((hb'.setCell (by first | exact Nat.le_refl _ | (simp only [World.size_alloc, World.size_setCell, World.size_drew]; omega) | omega) _).setCell (by first | exact Nat.le_refl _ | (simp only [World.size_alloc, World.size_setCell, World.size_drew]; omega) | omega) _).setCell (by first | exact Nat.le_refl _ | (simp only [World.size_alloc, World.size_setCell, World.size_drew]; omega) | omega) _).setCell (by first | exact Nat.le_refl _ | (simp only [World.size_alloc, World.size_setCell, World.size_drew]; omega) | omega) _

def eqL (xs ys : List Int) : Bool := decide (xs = ys)
theorem eqL_self (xs : List Int) : eqL xs xs = true := by simp [eqL]

theorem eqIntS_any (a b : Option Addr) (xs ys : List Int) (ca cb : Nat) (w : World) (hx : Rd w a xs) (hy : Rd w b ys) :
    Calls Try.prog 22 #[.slice a xs.length ca, .slice b ys.length cb] w fun e w' => e = .returned (.bool (eqL xs ys)) ∧ Below w.heap.size w w' := by
  have hlx := hx.len
  have hly := hy.len
  by_cases hl : xs.length = ys.length
  · have hl' : ((xs.length : Int) != (ys.length : Int)) = false := by simp [hl]
    go_enter Try.func22, Try.ntmps22
    have HL := Lib.hid hl
    clear hl
    go_wp2_with fail
    go_loopw [5] (fun i wr => ∃ k : Nat, k ≤ xs.length ∧ i = .int .i64 k ∧ xs.take k = ys.take k ∧ Below w.heap.size w wr) (fun i _ => xs.length - (intOf i).toNat)
    case atStart => exact ⟨0, Nat.zero_le _, rfl, rfl, Below.refl _ _⟩
    case round =>
      obtain ⟨k, hk, rfl, htk, hb⟩ := hrel
      have HT := Lib.hid htk
      clear htk
      by_cases hlt : k < xs.length
      · have hlt' : k < ys.length := by rw [← HL.out]; exact hlt
        obtain ⟨b1, o1, rfl, hb1, hc1⟩ := (hx.below hb).cell k hlt
        obtain ⟨b2, o2, rfl, hb2, hc2⟩ := (hy.below hb).cell k hlt'
        by_cases he : nth xs k = nth ys k
        · have he' : (nth xs k != nth ys k) = false := by simp [he]
          have HE := Lib.hid he
          clear he
          go_wp2_with fail
          go_quiet (fail)
          go_wp2_with fail
          go_roundw
          case rel =>
            refine ⟨k + 1, by omega, by go_num, ?_, by exact hb.trans (Joins.below_draws _ _ _)⟩
            rw [List.take_succ_eq_append_getElem hlt, List.take_succ_eq_append_getElem hlt', HT.out, ← nth_get, ← nth_get, HE.out]
          case measure => simp [intOf]; omega
        · have he' : (nth xs k != nth ys k) = true := by simp [he]
          have hne : eqL xs ys = false := by
            simp only [eqL, decide_eq_false_iff_not]
            intro e
            subst e
            exact he rfl
          have HN := Lib.hid hne
          clear he hne
          go_wp2_with fail
          go_quiet (fail)
          go_wp2_with fail
          go_ret
          exact ⟨ret_bool HN.out.symm, hb.trans (Joins.below_draws _ _ _)⟩
      · go_wp2_with fail
        go_ret
        refine ⟨ret_bool ?_, hb⟩
        have h1 := HT.out
        rw [List.take_of_length_le (by omega), List.take_of_length_le (by rw [← HL.out]; omega)] at h1
        simp [eqL, h1]
  · have hl' : ((xs.length : Int) != (ys.length : Int)) = true := by simp; omega
    have hne : eqL xs ys = false := by
      simp only [eqL, decide_eq_false_iff_not]
      intro e
      exact hl (by rw [e])
    have HN := Lib.hid hne
    clear hl hne
    go_enter Try.func22, Try.ntmps22
    go_wp2_with fail
    go_ret
    exact ⟨ret_bool HN.out.symm, Below.refl _ _⟩

theorem eqTable_same (n m : Int) (a b : Option Addr) (xs : List Int) (ca cb : Nat) (w : World) (hx : Rd w a xs) (hy : Rd w b xs) :
    Calls Try.prog 19 #[.agg #[.int .i64 n, .int .i64 m, .slice a xs.length ca], .agg #[.int .i64 n, .int .i64 m, .slice b xs.length cb]] w fun e w' => e = .returned (.bool true) ∧ Below w.heap.size w w' := by
  go_enter Try.func19, Try.ntmps19
  go_wp2_with fail
  refine (eqIntS_any _ _ xs xs _ _ _ (hx.below (by repeat (first | exact Below.refl _ _ | assumption | refine Below.alloc ?_ (by first | exact Nat.le_refl _ | (simp only [World.size_alloc, World.size_setCell, World.size_drew]; omega) | omega) _ | refine Below.setCell ?_ (by first | exact Nat.le_refl _ | (simp only [World.size_alloc, World.size_setCell, World.size_drew]; omega) | omega) _ | refine Below.drew ?_))) (hy.below (by repeat (first | exact Below.refl _ _ | assumption | refine Below.alloc ?_ (by first | exact Nat.le_refl _ | (simp only [World.size_alloc, World.size_setCell, World.size_drew]; omega) | omega) _ | refine Below.setCell ?_ (by first | exact Nat.le_refl _ | (simp only [World.size_alloc, World.size_setCell, World.size_drew]; omega) | omega) _ | refine Below.drew ?_)))).mono ?_
  rintro e w1 ⟨rfl, hb⟩
  rw [eqL_self]
  go_wp2_with fail
  go_ret
  exact ⟨rfl, Below.trans (by repeat (first | exact Below.refl _ _ | assumption | refine Below.alloc ?_ (by first | exact Nat.le_refl _ | (simp only [World.size_alloc, World.size_setCell, World.size_drew]; omega) | omega) _ | refine Below.setCell ?_ (by first | exact Nat.le_refl _ | (simp only [World.size_alloc, World.size_setCell, World.size_drew]; omega) | omega) _ | refine Below.drew ?_)) (hb.mono (by first | (simp only [World.size_alloc, World.size_setCell, World.size_drew]; omega) | omega))⟩

/-- what a search hands back -/
def FsPost (W : World) (B : Nat) (r : Option (List Int)) (e : Ending) (w' : World) : Prop :=
  Below W.heap.size W w' ∧ ∃ a' cap', e = .returned (.tuple #[.slice a' (r.getD []).length cap', .bool r.isSome]) ∧ OwnI w' B (.slice a' (r.getD []).length cap') (r.getD [])

/-- the first answer that a function gives below n -/
def find1 {α : Type} (f : Nat → Option α) (n : Nat) : Option α := (List.range n).findSome? f
theorem find1_none {α : Type} {f : Nat → Option α} {n : Nat} (h : ∀ j, j < n → f j = none) : find1 f n = none := by
  rw [find1, List.findSome?_eq_none_iff]
  intro x hx
  exact h x (by simpa using hx)
theorem find1_succ {α : Type} {f : Nat → Option α} (n : Nat) : find1 f (n+1) = (find1 f n).or (f n) := by
  rw [find1, List.range_succ, List.findSome?_append]
  simp [find1, List.findSome?]
  cases f n <;> rfl
theorem find1_some {α : Type} {f : Nat → Option α} {x : α} : ∀ {n k : Nat}, k < n → f k = some x → (∀ j, j < k → f j = none) → find1 f n = some x
  | 0, k, hk, _, _ => by omega
  | n+1, k, hk, h1, h2 => by
    rw [find1_succ]
    by_cases e : k = n
    · subst e
      rw [find1_none h2, h1]; rfl
    · rw [find1_some (n := n) (by omega) h1 h2]; rfl
theorem find1_congr {α : Type} {f g : Nat → Option α} {n : Nat} (h : ∀ j, j < n → f j = g j) : find1 f n = find1 g n := by
  unfold find1
  induction n with
  | zero => rfl
  | succ n ih =>
    have := ih (fun j hj => h j (by omega))
    rw [List.range_succ, List.findSome?_append, List.findSome?_append, this]
    congr 1
    simp [List.findSome?, h n (by omega)]
theorem find1_ex {α : Type} {f : Nat → Option α} {x : α} : ∀ {n : Nat}, find1 f n = some x → ∃ k, k < n ∧ f k = some x ∧ ∀ j, j < k → f j = none
  | 0, h => by simp [find1] at h
  | n+1, h => by
    rw [find1_succ] at h
    cases hf : find1 f n with
    | none =>
      rw [hf] at h
      refine ⟨n, by omega, by simpa using h, fun j hj => ?_⟩
      rw [find1, List.findSome?_eq_none_iff] at hf
      exact hf j (by simpa using hj)
    | some y =>
      rw [hf] at h
      have e : y = x := by simpa using h
      subst e
      obtain ⟨k, hk, h1, h2⟩ := find1_ex hf
      exact ⟨k, by omega, h1, h2⟩
theorem find1_map {α β : Type} {f : Nat → Option α} {g : α → β} {n : Nat} : find1 (fun j => (f j).map g) n = (find1 f n).map g := by
  induction n with
  | zero => rfl
  | succ n ih => rw [find1_succ, find1_succ, ih]; cases find1 f n <;> rfl

theorem wrap64_small (n : Int) (h0 : -9223372036854775808 ≤ n) (h1 : n ≤ 9223372036854775807) : IntKind.i64.wrap n = n := by
  simp only [IntKind.wrap, IntKind.bits, IntKind.signed]
  simp
  omega
theorem i64_wrap (n : Int) : IntKind.i64.wrap n = wrap64 n := IntWalk.i64_left n
theorem ofInt_i64 (a : Nat) (ha : a < 9223372036854775808) : (BitVec.ofInt 64 (a : Int)).toNat = a := by
  simp
  omega
theorem and_nat (a b : Nat) (ha : a < 9223372036854775808) (hb : b < 9223372036854775808) : bits .and .i64 (a : Int) (b : Int) = ((a &&& b : Nat) : Int) := by
  have hx : a &&& b < 2 ^ 63 := Nat.and_lt_two_pow _ (by omega)
  show IntKind.i64.wrap ((BitVec.ofInt 64 (a : Int) &&& BitVec.ofInt 64 (b : Int)).toNat : Int) = _
  rw [BitVec.toNat_and, ofInt_i64 a ha, ofInt_i64 b hb, wrap64_small _ (by omega) (by omega)]
theorem or_nat (a b : Nat) (ha : a < 9223372036854775808) (hb : b < 9223372036854775808) : bits .or .i64 (a : Int) (b : Int) = ((a ||| b : Nat) : Int) := by
  have hx : a ||| b < 2 ^ 63 := Nat.or_lt_two_pow (by omega) (by omega)
  show IntKind.i64.wrap ((BitVec.ofInt 64 (a : Int) ||| BitVec.ofInt 64 (b : Int)).toNat : Int) = _
  rw [BitVec.toNat_or, ofInt_i64 a ha, ofInt_i64 b hb, wrap64_small _ (by omega) (by omega)]
/-- a set without the elements of another one -/
def sub (a b : Nat) : Nat := a ^^^ (a &&& b)
theorem testBit_sub (a b i : Nat) : (sub a b).testBit i = (a.testBit i && !b.testBit i) := by
  simp [sub, Nat.testBit_xor, Nat.testBit_and]
  cases a.testBit i <;> cases b.testBit i <;> rfl
theorem sub_lt {a b n : Nat} (h : a < 2 ^ n) : sub a b < 2 ^ n := by
  unfold sub
  exact Nat.xor_lt_two_pow h (by rw [Nat.and_comm]; exact Nat.and_lt_two_pow _ h)
theorem sub_nat (a b : Nat) (ha : a < 9223372036854775808) (hb : b < 9223372036854775808) : bits .andNot .i64 (a : Int) (b : Int) = ((sub a b : Nat) : Int) := by
  have hs : sub a b < 2 ^ 63 := sub_lt (by omega)
  show IntKind.i64.wrap ((BitVec.ofInt 64 (a : Int) &&& ~~~BitVec.ofInt 64 (b : Int)).toNat : Int) = _
  have e : (BitVec.ofInt 64 (a : Int) &&& ~~~BitVec.ofInt 64 (b : Int)).toNat = sub a b := by
    apply Nat.eq_of_testBit_eq
    intro i
    rw [BitVec.testBit_toNat, BitVec.getLsbD_and, BitVec.getLsbD_not, testBit_sub, ← BitVec.testBit_toNat, ← BitVec.testBit_toNat, ofInt_i64 a ha, ofInt_i64 b hb]
    by_cases hi : i < 64
    · simp [hi]
    · have : a.testBit i = false := Nat.testBit_lt_two_pow (Nat.lt_of_lt_of_le (by omega : a < 2 ^ 64) (Nat.pow_le_pow_right (by omega) (by omega)))
      simp [this]
  rw [e, wrap64_small _ (by omega) (by omega)]
theorem shr_nat (s i : Nat) (hs : s < 9223372036854775808) : (s : Int) / (2 ^ min i 64) = ((s >>> i : Nat) : Int) := by
  rw [Nat.shiftRight_eq_div_pow]
  by_cases h : i ≤ 64
  · rw [Nat.min_eq_left h]
    simp
  · rw [Nat.min_eq_right (by omega)]
    have : 2 ^ 64 ≤ 2 ^ i := Nat.pow_le_pow_right (by omega) (by omega)
    rw [Nat.div_eq_of_lt (by omega)]
    omega
theorem bit_and (s i : Nat) (hs : s < 9223372036854775808) : (bits .and .i64 ((s >>> i : Nat) : Int) 1 == 1) = s.testBit i := by
  have h1 : s >>> i ≤ s := by rw [Nat.shiftRight_eq_div_pow]; exact Nat.div_le_self _ _
  have := and_nat (s >>> i) 1 (by omega) (by omega)
  rw [show ((1 : Nat) : Int) = 1 from rfl] at this
  rw [this, Nat.testBit, Nat.and_one_is_mod, Nat.and_comm, Nat.and_one_is_mod]
  rcases Nat.mod_two_eq_zero_or_one (s >>> i) with h | h <;> simp [h]
theorem bit_mod (s i : Nat) : (((s >>> i : Nat) : Int) % 2 == 1) = s.testBit i := by
  rw [Nat.testBit, Nat.and_comm, Nat.and_one_is_mod]
  rcases Nat.mod_two_eq_zero_or_one (s >>> i) with h | h
  · have h2 : ((s >>> i : Nat) : Int) % 2 = 0 := by omega
    rw [h2, h]; rfl
  · have h2 : ((s >>> i : Nat) : Int) % 2 = 1 := by omega
    rw [h2, h]; rfl
theorem bit_tmod (s i : Nat) : (((s >>> i : Nat) : Int).tmod 2 == 1) = s.testBit i := by
  rw [Int.tmod_eq_emod_of_nonneg (Int.natCast_nonneg _), bit_mod]
/-- is i in the set s? -/
def hasB (s i : Int) : Bool := s.toNat.testBit i.toNat
theorem has_and {s i : Int} (h0 : 0 ≤ s) (h1 : s ≤ 9223372036854775807) (hi : 0 ≤ i) : (bits .and .i64 (s / 2 ^ min i.toNat 64) 1 == 1) = hasB s i := by
  obtain ⟨S, rfl⟩ := Int.eq_ofNat_of_zero_le h0
  rw [shr_nat S _ (by omega), bit_and S _ (by omega)]
  rfl
theorem has_mod {s i : Int} (h0 : 0 ≤ s) (h1 : s ≤ 9223372036854775807) (hi : 0 ≤ i) : ((s / 2 ^ min i.toNat 64).tmod 2 == 1) = hasB s i := by
  obtain ⟨S, rfl⟩ := Int.eq_ofNat_of_zero_le h0
  rw [shr_nat S _ (by omega), bit_tmod S]
  rfl
theorem pow_w {k : Nat} (h : k < 62) : wrap64 (2 ^ k) = ((2 ^ k : Nat) : Int) := by
  have : 2 ^ k ≤ 2 ^ 61 := Nat.pow_le_pow_right (by omega) (by omega)
  rw [show ((2:Int) ^ k) = ((2 ^ k : Nat) : Int) by simp]
  generalize hp : 2 ^ k = p at *
  exact IntWalk.wrap64_in _ ⟨by omega, by omega⟩
theorem or_bit {b k : Nat} (hb : b < 4611686018427387904) (hk : k < 62) : bits .or .i64 (b : Int) (wrap64 (2 ^ k)) = ((b ||| 2 ^ k : Nat) : Int) := by
  rw [pow_w hk]
  have : 2 ^ k ≤ 2 ^ 61 := Nat.pow_le_pow_right (by omega) (by omega)
  exact or_nat _ _ (by omega) (by omega)
theorem or_i {a b : Int} (ha : 0 ≤ a) (ha1 : a < 9223372036854775808) (hb : 0 ≤ b) (hb1 : b < 9223372036854775808) : bits .or .i64 a b = ((a.toNat ||| b.toNat : Nat) : Int) := by
  obtain ⟨A, rfl⟩ := Int.eq_ofNat_of_zero_le ha
  obtain ⟨B, rfl⟩ := Int.eq_ofNat_of_zero_le hb
  exact or_nat A B (by omega) (by omega)
theorem sub_i {a b : Int} (ha : 0 ≤ a) (ha1 : a < 9223372036854775808) (hb : 0 ≤ b) (hb1 : b < 9223372036854775808) : bits .andNot .i64 a b = ((sub a.toNat b.toNat : Nat) : Int) := by
  obtain ⟨A, rfl⟩ := Int.eq_ofNat_of_zero_le ha
  obtain ⟨B, rfl⟩ := Int.eq_ofNat_of_zero_le hb
  exact sub_nat A B (by omega) (by omega)
theorem or_lt {a b n : Nat} (ha : a < 2 ^ n) (hb : b < 2 ^ n) : a ||| b < 2 ^ n := Nat.or_lt_two_pow ha hb
theorem two_lt {k n : Nat} (h : k < n) : 2 ^ k < 2 ^ n := Nat.pow_lt_pow_right (by omega) h
theorem testBit_two (k i : Nat) : (2 ^ k).testBit i = decide (k = i) := Nat.testBit_two_pow

def inB (n lo hi : Int) : Bool := decide (lo ≤ n) && decide (n ≤ hi)
theorem inB_iff {n lo hi : Int} : inB n lo hi = true ↔ lo ≤ n ∧ n ≤ hi := by simp [inB]
theorem inB_no {n lo hi : Int} : inB n lo hi = false ↔ n < lo ∨ hi < n := by
  rw [← Bool.not_eq_true, inB_iff]
  omega

def allB (xs : List Int) (lo hi : Int) : Bool := xs.all (fun x => inB x lo hi)
theorem allB_take (xs : List Int) (lo hi : Int) (k : Nat) (h : k < xs.length) : allB (xs.take (k+1)) lo hi = (allB (xs.take k) lo hi && inB (nth xs k) lo hi) := by
  simp only [allB]
  rw [List.take_succ_eq_append_getElem h, List.all_append]
  simp [nth, h]
theorem allB_false {xs : List Int} {lo hi : Int} {k : Nat} (h : k < xs.length) (h1 : inB (nth xs k) lo hi = false) : allB xs lo hi = false := by
  simp only [allB, List.all_eq_false]
  exact ⟨xs[k], List.getElem_mem h, by simpa [nth, h] using h1⟩
theorem allB_nth {xs : List Int} {lo hi : Int} (h : allB xs lo hi = true) {k : Nat} (hk : k < xs.length) : lo ≤ nth xs k ∧ nth xs k ≤ hi := by
  simp only [allB, List.all_eq_true] at h
  have := inB_iff.1 (h _ (List.getElem_mem hk))
  rwa [← nth_get xs k hk] at this

/-- is it a relation? -/
def relB (n : Int) (xs : List Int) : Bool := inB n 0 10 && decide ((xs.length : Int) = n) && allB xs 0 (2 ^ n.toNat - 1)
theorem relB_iff {n : Int} {xs : List Int} : relB n xs = true ↔ (0 ≤ n ∧ n ≤ 10) ∧ (xs.length : Int) = n ∧ allB xs 0 (2 ^ n.toNat - 1) = true := by
  simp [relB, inB_iff, and_assoc]
theorem pow10 {n : Nat} (h : n ≤ 10) : (1 : Int) ≤ 2 ^ n ∧ (2 : Int) ^ n ≤ 1024 := by
  have h1 : 2 ^ n ≤ 2 ^ 10 := Nat.pow_le_pow_right (by omega) h
  have h2 : 1 ≤ 2 ^ n := Nat.one_le_two_pow
  have h3 : ((2 ^ n : Nat) : Int) = (2 : Int) ^ n := by simp
  omega
theorem full_eq {n : Int} (h0 : 0 ≤ n) (h1 : n ≤ 10) : wrap64 (wrap64 (2 ^ n.toNat) - 1) = 2 ^ n.toNat - 1 := by
  have h2 := pow10 (n := n.toNat) (by omega)
  generalize (2 : Int) ^ n.toNat = p at *
  rw [IntWalk.wrap64_in p ⟨by omega, by omega⟩, IntWalk.wrap64_in _ ⟨by omega, by omega⟩]
structure RelP (n : Int) (xs : List Int) : Prop where
  n0 : 0 ≤ n
  n1 : n ≤ 10
  len : (xs.length : Int) = n
  pos : ∀ k, k < xs.length → 0 ≤ nth xs k
  lt : ∀ k, k < xs.length → nth xs k < 2 ^ xs.length
  small : ∀ k, k < xs.length → nth xs k < 1024
theorem relB_p {n : Int} {xs : List Int} (h : relB n xs = true) : RelP n xs := by
  obtain ⟨⟨h0, h1⟩, h2, h3⟩ := relB_iff.1 h
  have e : n.toNat = xs.length := by omega
  rw [e] at h3
  have hp := pow10 (n := xs.length) (by omega)
  exact ⟨h0, h1, h2, fun k hk => (allB_nth h3 hk).1, fun k hk => by have := (allB_nth h3 hk).2; omega, fun k hk => by have := (allB_nth h3 hk).2; omega⟩

/-- one step of the closing: what is above k goes to i, if k is above i -/
def clStep (xs : List Int) (k i : Nat) : List Int := if hasB (nth xs i) k then xs.set i (((nth xs i).toNat ||| (nth xs k).toNat : Nat) : Int) else xs
def clRow (xs : List Int) (k : Nat) : Nat → List Int
  | 0 => xs
  | i+1 => clStep (clRow xs k i) k i
def clAll (xs : List Int) : Nat → List Int
  | 0 => xs
  | k+1 => clRow (clAll xs k) k xs.length
theorem clStep_len (xs : List Int) (k i : Nat) : (clStep xs k i).length = xs.length := by
  unfold clStep; split <;> simp
theorem clRow_len (xs : List Int) (k : Nat) : ∀ i, (clRow xs k i).length = xs.length
  | 0 => rfl
  | i+1 => by rw [clRow, clStep_len, clRow_len xs k i]
theorem clAll_len (xs : List Int) : ∀ k, (clAll xs k).length = xs.length
  | 0 => rfl
  | k+1 => by rw [clAll, clRow_len, clAll_len xs k]
/-- all numbers of a list are sets below 1024 -/
def Small (xs : List Int) : Prop := ∀ k, k < xs.length → 0 ≤ nth xs k ∧ nth xs k < 1024
theorem nth_set {xs : List Int} {i j : Nat} {x : Int} (hi : i < xs.length) : nth (xs.set i x) j = if i = j then x else nth xs j := by
  simp only [nth, List.getD_eq_getElem?_getD, List.getElem?_set]
  by_cases h : i = j
  · subst h; simp [hi]
  · simp [h]
theorem clStep_small {xs : List Int} (h : Small xs) {k i : Nat} (hk : k < xs.length) (hi : i < xs.length) : Small (clStep xs k i) := by
  unfold clStep
  split
  · intro j hj
    rw [nth_set hi]
    have h1 := h i hi
    have h2 := h k hk
    split
    · have : (nth xs i).toNat ||| (nth xs k).toNat < 2 ^ 10 := or_lt (by omega) (by omega)
      omega
    · exact h j (by simpa using hj)
  · exact h
theorem clRow_small {xs : List Int} (h : Small xs) {k : Nat} (hk : k < xs.length) : ∀ i, i ≤ xs.length → Small (clRow xs k i)
  | 0, _ => h
  | i+1, hi => clStep_small (clRow_small h hk i (by omega)) (by rw [clRow_len]; exact hk) (by rw [clRow_len]; omega)
theorem clAll_small {xs : List Int} (h : Small xs) : ∀ k, k ≤ xs.length → Small (clAll xs k)
  | 0, _ => h
  | k+1, hk => clRow_small (clAll_small h k (by omega)) (by rw [clAll_len]; omega) _ (by rw [clAll_len]; omega)
theorem RelP.sm {n : Int} {xs : List Int} (h : RelP n xs) : Small xs := fun k hk => ⟨h.pos k hk, h.small k hk⟩
theorem set_ints (xs : List Int) (i : Nat) (x : Int) : (xs.map (Value.int .i64)).set i (.int .i64 x) = (xs.set i x).map (Value.int .i64) := by
  rw [List.map_set]
/-- a store into an owned row -/
theorem OwnI.put {w : World} {B g n cap : Nat} {xs : List Int} (h : OwnI w B (.slice (some ⟨g, 0, none⟩) n cap) xs) (hn : n = xs.length) (i : Nat) (x : Int) :
    OwnI (w.setCell ⟨g, i, none⟩ (.int .i64 x)) B (.slice (some ⟨g, 0, none⟩) n cap) (xs.set i x) ∧ w.grownBy (w.setCell ⟨g, i, none⟩ (.int .i64 x)) (some g) := by
  subst hn
  have hst := World.ownsRow.stored h i (.int .i64 x)
  rw [set_ints] at hst
  refine ⟨?_, hst.2⟩
  unfold OwnI
  rw [List.length_set]
  exact hst.1
theorem OwnI.at' {w : World} {B g n cap : Nat} {xs : List Int} (h : OwnI w B (.slice (some ⟨g, 0, none⟩) n cap) xs) (hn : n = xs.length) {i : Nat} (hi : i < xs.length) :
    w.cell? ⟨g, i, none⟩ = some (.int .i64 (nth xs i)) ∧ w.frozen? ⟨g, i, none⟩ = false := by
  subst hn
  refine ⟨?_, World.ownsRow.frozenAt h i⟩
  rw [World.ownsRow.cellAt h i (by omega)]
  simp [nth, hi]
theorem OwnI.head {w : World} {B n cap : Nat} {a : Option Addr} {xs : List Int} (h : OwnI w B (.slice a n cap) xs) (hp : 0 < xs.length) : ∃ g, a = some ⟨g, 0, none⟩ ∧ B ≤ g ∧ g < w.heap.size := by
  rcases h.2 with ⟨e, h0⟩ | ⟨g, c, cur, e, hb, hg, _⟩
  · omega
  · simp only [Value.slice.injEq] at e
    exact ⟨g, e.1, hb, (Array.getElem?_eq_some_iff.1 hg).1⟩
def cloN (n : Int) (xs : List Int) : Int := if relB n xs then n else 0
def cloL (n : Int) (xs : List Int) : List Int := if relB n xs then clAll xs xs.length else []
theorem cloL_len (n : Int) (xs : List Int) : (cloL n xs).length ≤ 1048576 := by
  unfold cloL
  split
  · rename_i h
    have hp := relB_p h
    have := hp.len
    have := hp.n1
    rw [clAll_len]
    omega
  · simp

/-- the least number that is greater than all of the first k -/
def unTo (l : List Int) : Nat → Nat
  | 0 => 0
  | k+1 => max (unTo l k) ((nth l k).toNat + 1)
/-- the first list that goes on a list so far, in which each longer beginning fits -/
def cnS (F : List Int → Bool) (lim : Nat) : Nat → List Int → Option (List Int)
  | 0, l => some l
  | d+1, l => find1 (fun x => if F (l ++ [(x : Int)]) then cnS F lim d (l ++ [(x : Int)]) else none) (min lim (unTo l l.length + 1))
theorem cnS_len {F : List Int → Bool} {lim : Nat} : ∀ {d : Nat} {l ys : List Int}, cnS F lim d l = some ys → ys.length = l.length + d
  | 0, l, ys, h => by simp only [cnS, Option.some.injEq] at h; rw [h]; rfl
  | d+1, l, ys, h => by
    simp only [cnS] at h
    obtain ⟨x, _, h1, _⟩ := find1_ex h
    split at h1
    · have := cnS_len h1
      rw [this, List.length_append]; simp; omega
    · cases h1
/-- are all numbers of a list less than a limit? -/
def LtL (lim : Nat) (l : List Int) : Prop := ∀ i, i < l.length → 0 ≤ nth l i ∧ nth l i < (lim : Int)
theorem LtL.snoc {lim : Nat} {l : List Int} (h : LtL lim l) {x : Nat} (hx : x < lim) : LtL lim (l ++ [(x : Int)]) := by
  intro i hi
  rw [List.length_append, List.length_singleton] at hi
  by_cases e : i = l.length
  · have : nth (l ++ [(x : Int)]) i = (x : Int) := by simp [nth, List.getD_eq_getElem?_getD, e]
    rw [this]; omega
  · have : nth (l ++ [(x : Int)]) i = nth l i := by simp [nth, List.getD_eq_getElem?_getD, List.getElem?_append_left (show i < l.length by omega)]
    rw [this]; exact h i (by omega)
theorem unTo_le {lim : Nat} {l : List Int} (h : LtL lim l) : ∀ k, k ≤ l.length → unTo l k ≤ lim
  | 0, _ => by simp [unTo]
  | k+1, hk => by
    have ih := unTo_le h k (by omega)
    have h1 := h k (by omega)
    simp only [unTo]
    omega

/-- the elements of a set that are less than k, in order -/
def elemsTo (s : Nat) : Nat → List Int
  | 0 => []
  | k+1 => if s.testBit k then elemsTo s k ++ [(k : Int)] else elemsTo s k
theorem elemsTo_len (s : Nat) : ∀ k, (elemsTo s k).length ≤ k
  | 0 => by simp [elemsTo]
  | k+1 => by
    have := elemsTo_len s k
    simp only [elemsTo]
    split <;> simp <;> omega
theorem mem_elemsTo (s : Nat) (x : Int) : ∀ k, x ∈ elemsTo s k ↔ ∃ i : Nat, i < k ∧ s.testBit i = true ∧ x = i
  | 0 => by simp [elemsTo]
  | k+1 => by
    have ih := mem_elemsTo s x k
    simp only [elemsTo]
    cases hb : s.testBit k
    · rw [if_neg (by simp), ih]
      constructor
      · rintro ⟨i, h1, h2, h3⟩
        exact ⟨i, by omega, h2, h3⟩
      · rintro ⟨i, h1, h2, h3⟩
        have : i ≠ k := fun e => by rw [e, hb] at h2; cases h2
        exact ⟨i, by omega, h2, h3⟩
    · rw [if_pos rfl, List.mem_append, ih]
      constructor
      · rintro (⟨i, h1, h2, h3⟩ | h)
        · exact ⟨i, by omega, h2, h3⟩
        · exact ⟨k, by omega, hb, by simpa using h⟩
      · rintro ⟨i, h1, h2, h3⟩
        by_cases e : i = k
        · exact .inr (by simp [h3, e])
        · exact .inl ⟨i, by omega, h2, h3⟩
theorem elemsTo_more (s k : Nat) (h : s >>> k = 0) : ∀ m, elemsTo s (k + m) = elemsTo s k
  | 0 => rfl
  | m+1 => by
    have hb : s.testBit (k + m) = false := by
      rw [Nat.testBit]
      have : s >>> (k + m) = 0 := by rw [Nat.shiftRight_add, h]; simp
      simp [this]
    show elemsTo s (k + m + 1) = _
    simp only [elemsTo, hb]
    exact elemsTo_more s k h m
/-- all elements of a set below 1024 -/
def elems (s : Nat) : List Int := elemsTo s 10
theorem elems_at {s k : Nat} (h : s >>> k = 0) (hk : k ≤ 10) : elemsTo s k = elems s := by
  have := elemsTo_more s k h (10 - k)
  rw [show k + (10 - k) = 10 from by omega] at this
  exact this.symm
theorem elems_len (s : Nat) : (elems s).length ≤ 10 := elemsTo_len s 10
theorem mem_elems {s : Nat} (hs : s < 1024) {x : Int} : x ∈ elems s ↔ ∃ i : Nat, s.testBit i = true ∧ x = i := by
  rw [elems, mem_elemsTo]
  constructor
  · rintro ⟨i, _, h2, h3⟩
    exact ⟨i, h2, h3⟩
  · rintro ⟨i, h2, h3⟩
    refine ⟨i, ?_, h2, h3⟩
    rcases Nat.lt_or_ge i 10 with h | h
    · exact h
    · have : s < 2 ^ i := Nat.lt_of_lt_of_le hs (Nat.pow_le_pow_right (by omega : 0 < 2) h)
      rw [Nat.testBit_lt_two_pow this] at h2
      cases h2
theorem nth_mem {xs : List Int} {k : Nat} (h : k < xs.length) : nth xs k ∈ xs := by
  rw [nth_get xs k h]; exact List.getElem_mem h
theorem mem_nth {xs : List Int} {x : Int} (h : x ∈ xs) : ∃ k, k < xs.length ∧ nth xs k = x := by
  obtain ⟨k, hk, e⟩ := List.getElem_of_mem h
  exact ⟨k, hk, by rw [nth_get xs k hk, e]⟩

theorem elems_lt {S n : Nat} (hS : S < 2 ^ n) (hn : n ≤ 10) : elems S = elemsTo S n := (elems_at (by rw [Nat.shiftRight_eq_div_pow]; exact Nat.div_eq_of_lt hS) hn).symm

/-- the first answer over a set's elements -/
def findE {α : Type} (s : Nat) (f : Nat → Option α) : Option α := (elems s).findSome? (fun x => f x.toNat)
theorem findE_to {α : Type} (s : Nat) (f : Nat → Option α) : ∀ n, (elemsTo s n).findSome? (fun x => f x.toNat) = find1 (fun b => if s.testBit b then f b else none) n
  | 0 => by simp [elemsTo, find1]
  | n+1 => by
    rw [find1_succ, ← findE_to s f n]
    simp only [elemsTo]
    cases h : s.testBit n
    · simp
    · simp only [if_true, List.findSome?_append]
      congr 1
      simp [List.findSome?]
      cases f n <;> rfl
theorem findE_eq {α : Type} {s n : Nat} (f : Nat → Option α) (hs : s < 2 ^ n) (hn : n ≤ 10) : findE s f = find1 (fun b => if s.testBit b then f b else none) n := by
  rw [findE, elems_lt hs hn, findE_to]
def four (a b c d : Nat) : List Int := [(a : Int), (b : Int), (c : Int), (d : Int)]
theorem findE_ex {α : Type} {s : Nat} {f : Nat → Option α} {y : α} (hs : s < 1024) (h : findE s f = some y) : ∃ d, s.testBit d = true ∧ f d = some y := by
  rw [findE_eq (n := 10) f hs (by omega)] at h
  obtain ⟨k, _, h1, _⟩ := find1_ex h
  split at h1
  · exact ⟨k, by assumption, h1⟩
  · cases h1
theorem findE_no {α : Type} {s : Nat} {f : Nat → Option α} (hs : s < 1024) (h : ∀ d, s.testBit d = true → f d = none) : findE s f = none := by
  rw [findE_eq (n := 10) f hs (by omega)]
  refine find1_none (fun j _ => ?_)
  split
  · exact h j (by assumption)
  · rfl
theorem has_bit (s : Int) (b : Nat) : hasB s (b : Int) = s.toNat.testBit b := rfl
theorem findE_at {α : Type} {s p : Nat} {f : Nat → Option α} {y : α} (hp : p < (elems s).length) (h : f (nth (elems s) p).toNat = some y) (hb : ∀ q, q < p → f (nth (elems s) q).toNat = none) : findE s f = some y := by
  unfold findE
  rw [← List.take_append_drop p (elems s), List.findSome?_append, List.drop_eq_getElem_cons hp]
  have h1 : (List.take p (elems s)).findSome? (fun x => f x.toNat) = none := by
    rw [List.findSome?_eq_none_iff]
    intro x hx
    obtain ⟨q, hq, e⟩ := List.getElem_of_mem hx
    rw [List.length_take] at hq
    have := hb q (by omega)
    rw [nth_get _ _ (by omega)] at this
    rw [← e, List.getElem_take]
    exact this
  rw [nth_get _ _ hp] at h
  rw [h1, List.findSome?_cons, h]
  rfl
theorem findE_nil {α : Type} {s : Nat} {f : Nat → Option α} (hb : ∀ q, q < (elems s).length → f (nth (elems s) q).toNat = none) : findE s f = none := by
  unfold findE
  rw [List.findSome?_eq_none_iff]
  intro x hx
  obtain ⟨q, hq, rfl⟩ := mem_nth hx
  exact hb q hq

/-- is it a table? -/
def tabB (R C : Int) (xs : List Int) : Bool := inB R 1 6 && (inB C 1 6 && (decide ((xs.length : Int) = R) && allB xs 0 (2 ^ C.toNat - 1)))
structure TabP (R C : Int) (xs : List Int) : Prop where
  r0 : 1 ≤ R
  r1 : R ≤ 6
  c0 : 1 ≤ C
  c1 : C ≤ 6
  len : (xs.length : Int) = R
  all : allB xs 0 (2 ^ C.toNat - 1) = true
  pos : ∀ k, k < xs.length → 0 ≤ nth xs k
  lt : ∀ k, k < xs.length → nth xs k < 2 ^ C.toNat
  small : ∀ k, k < xs.length → nth xs k < 64
theorem pow6 {n : Nat} (h : n ≤ 6) : (1 : Int) ≤ 2 ^ n ∧ (2 : Int) ^ n ≤ 64 := by
  have h1 : 2 ^ n ≤ 2 ^ 6 := Nat.pow_le_pow_right (by omega) h
  have h2 : 1 ≤ 2 ^ n := Nat.one_le_two_pow
  have h3 : ((2 ^ n : Nat) : Int) = (2 : Int) ^ n := by simp
  omega
theorem tabB_p {R C : Int} {xs : List Int} (h : tabB R C xs = true) : TabP R C xs := by
  simp only [tabB, Bool.and_eq_true, inB_iff, decide_eq_true_eq] at h
  obtain ⟨⟨h0, h1⟩, ⟨h2, h3⟩, h4, h5⟩ := h
  have hp := pow6 (n := C.toNat) (by omega)
  exact ⟨h0, h1, h2, h3, h4, h5, fun k hk => (allB_nth h5 hk).1, fun k hk => by have := (allB_nth h5 hk).2; omega, fun k hk => by have := (allB_nth h5 hk).2; omega⟩

/-- the list of f 0, .., f (k - 1) -/
def fmap (f : Nat → Int) (k : Nat) : List Int := (List.range k).map f
theorem fmap_len (f : Nat → Int) (k : Nat) : (fmap f k).length = k := by simp [fmap]
theorem fmap_nth (f : Nat → Int) {k i : Nat} (h : i < k) : nth (fmap f k) i = f i := by simp [nth, fmap, h]
theorem fmap_succ (f : Nat → Int) (k : Nat) : fmap f (k+1) = fmap f k ++ [f k] := by simp [fmap, List.range_succ]
/-- one store more into a row that was made -/
theorem fill_step (f : Nat → Int) (m k : Nat) (h : k < m) :
    ((fmap f k ++ List.replicate (m - k) (0:Int)).map (Value.int .i64)).set k (.int .i64 (f k)) = (fmap f (k+1) ++ List.replicate (m - (k+1)) (0:Int)).map (Value.int .i64) := by
  apply List.ext_getElem?
  intro j
  rw [List.getElem?_set]
  by_cases hj : k = j
  · subst hj
    rw [if_pos rfl, if_pos (by simp [fmap_len]; omega), List.getElem?_map, List.getElem?_append_left (by rw [fmap_len]; omega)]
    simp [fmap]
  · simp only [hj, if_false, List.getElem?_map, List.getElem?_append, fmap_len, List.getElem?_replicate]
    by_cases h1 : j < k
    · have h2 : j < k + 1 := by omega
      simp [h1, h2, fmap]
    · have h2 : ¬ j < k + 1 := by omega
      have h3 : j - k < m - k ↔ j - (k+1) < m - (k+1) := by omega
      simp [h1, h2, h3]
theorem fill_end (f : Nat → Int) (m : Nat) : fmap f m ++ List.replicate (m - m) (0:Int) = fmap f m := by simp
/-- the row that a make of m integers has made -/
theorem made_ints {w1 : World} {B : Nat} {v : Value} {m : Nat} (f : Nat → Int) (h : w1.ownsRow B 3 1 v m (madeCells (Value.int .i64 0).cells (m * 1)).toList) :
    w1.ownsRow B 3 1 v m ((fmap f 0 ++ List.replicate (m - 0) (0:Int)).map (Value.int .i64)) := by
  simpa [Value.cells, toList_madeCells_one, fmap] using h

/-- the set of the numbers below k that a function tells -/
def rowBits (F : Nat → Bool) : Nat → Nat
  | 0 => 0
  | k+1 => if F k then rowBits F k ||| 2 ^ k else rowBits F k
theorem rowBits_lt (F : Nat → Bool) : ∀ k, rowBits F k < 2 ^ k
  | 0 => by simp [rowBits]
  | k+1 => by
    have h := rowBits_lt F k
    have h2 : 2 ^ k < 2 ^ (k+1) := two_lt (by omega)
    simp only [rowBits]
    split
    · exact or_lt (by omega) h2
    · omega
theorem rowBits_small (F : Nat → Bool) {k : Nat} (h : k ≤ 6) : rowBits F k < 64 := by
  have h1 := rowBits_lt F k
  have h2 : 2 ^ k ≤ 2 ^ 6 := Nat.pow_le_pow_right (by omega) h
  omega
theorem rowBits_bit (F : Nat → Bool) (j : Nat) : ∀ k, (rowBits F k).testBit j = (decide (j < k) && F j)
  | 0 => by simp [rowBits]
  | k+1 => by
    have h := rowBits_bit F j k
    simp only [rowBits]
    by_cases hjk : j = k
    · subst hjk
      cases hb : F j
      · simp [h]
      · simp [Nat.testBit_or, testBit_two]
    · have e : decide (j < k + 1) = decide (j < k) := by
        rw [decide_eq_decide]; omega
      rw [e, ← h]
      have hkj : ¬ k = j := fun e => hjk e.symm
      cases hb : F k <;> simp [Nat.testBit_or, testBit_two, hkj]
theorem rowBits_congr {F G : Nat → Bool} {k : Nat} (h : ∀ j, j < k → F j = G j) : rowBits F k = rowBits G k := by
  apply Nat.eq_of_testBit_eq
  intro j
  rw [rowBits_bit, rowBits_bit]
  by_cases hj : j < k
  · simp [hj, h j hj]
  · simp [hj]
/-- a set that has only these bits is made of them -/
theorem rowBits_self {s k : Nat} (h : s < 2 ^ k) : rowBits (fun j => s.testBit j) k = s := by
  apply Nat.eq_of_testBit_eq
  intro j
  rw [rowBits_bit]
  by_cases hj : j < k
  · simp [hj]
  · have : s.testBit j = false := Nat.testBit_lt_two_pow (Nat.lt_of_lt_of_le h (Nat.pow_le_pow_right (by omega) (by omega)))
    simp [hj, this]
/-- the rows of a table that is told cell by cell -/
def tbL (F : Nat → Nat → Bool) (R C : Nat) : List Int := fmap (fun r => ((rowBits (F r) C : Nat) : Int)) R
/-- the same after k cells -/
def tbAt (F : Nat → Nat → Bool) (R C k : Nat) : List Int := fmap (fun i => ((rowBits (F i) (min C (k - i * C)) : Nat) : Int)) R
theorem tbL_len (F : Nat → Nat → Bool) (R C : Nat) : (tbL F R C).length = R := fmap_len _ _
theorem tbAt_len (F : Nat → Nat → Bool) (R C k : Nat) : (tbAt F R C k).length = R := fmap_len _ _
theorem tbAt_zero (F : Nat → Nat → Bool) (R C : Nat) : tbAt F R C 0 = List.replicate R 0 := by
  apply List.ext_getElem?
  intro j
  simp only [tbAt, fmap, List.getElem?_map, List.getElem?_replicate]
  by_cases h : j < R
  · simp [h, rowBits]
  · simp [h]
theorem tbAt_end (F : Nat → Nat → Bool) (R C : Nat) : tbAt F R C (R * C) = tbL F R C := by
  apply List.ext_getElem?
  intro j
  simp only [tbAt, tbL, fmap, List.getElem?_map]
  by_cases h : j < R
  · have h1 : C ≤ R * C - j * C := by
      rw [← Nat.sub_mul]
      exact Nat.le_mul_of_pos_left C (by omega)
    simp [h, Nat.min_eq_left h1]
  · simp [h]
theorem cell_rc {C r c : Nat} (hc : c < C) : (r * C + c) / C = r ∧ (r * C + c) % C = c := by
  have h0 : 0 < C := by omega
  constructor
  · rw [Nat.mul_comm, Nat.mul_add_div h0, Nat.div_eq_of_lt hc]; rfl
  · rw [Nat.mul_comm, Nat.mul_add_mod, Nat.mod_eq_of_lt hc]
theorem cell_eq {C k : Nat} (h : 0 < C) : k = (k / C) * C + k % C := by
  have := Nat.div_add_mod k C
  rw [Nat.mul_comm] at this
  exact this.symm
theorem tbAt_nth (F : Nat → Nat → Bool) {R C r c : Nat} (hr : r < R) (hc : c < C) : nth (tbAt F R C (r * C + c)) r = ((rowBits (F r) c : Nat) : Int) := by
  rw [show nth (tbAt F R C (r * C + c)) r = _ from fmap_nth _ hr, Nat.add_sub_cancel_left, Nat.min_eq_right (by omega)]
theorem tbAt_step (F : Nat → Nat → Bool) {R C r c : Nat} (hr : r < R) (hc : c < C) : (tbAt F R C (r * C + c)).set r ((rowBits (F r) (c+1) : Nat) : Int) = tbAt F R C (r * C + c + 1) := by
  apply List.ext_getElem?
  intro j
  rw [List.getElem?_set, tbAt_len]
  by_cases hj : r = j
  · subst hj
    simp only [if_true, hr, tbAt, fmap, List.getElem?_map, List.getElem?_range hr, Option.map_some]
    rw [show r * C + c + 1 - r * C = c + 1 from by omega, Nat.min_eq_right (by omega)]
  · simp only [hj, if_false, tbAt, fmap, List.getElem?_map]
    by_cases h : j < R
    · have e : min C (r * C + c - j * C) = min C (r * C + c + 1 - j * C) := by
        rcases Nat.lt_or_gt_of_ne hj with h1 | h1
        · have : (r + 1) * C ≤ j * C := Nat.mul_le_mul_right C h1
          rw [Nat.add_mul] at this
          omega
        · have : (j + 1) * C ≤ r * C := Nat.mul_le_mul_right C h1
          rw [Nat.add_mul] at this
          omega
      simp [h, e]
    · simp [h]
theorem tbAt_skip (F : Nat → Nat → Bool) {R C r c : Nat} (hr : r < R) (hc : c < C) (hF : F r c = false) : tbAt F R C (r * C + c + 1) = tbAt F R C (r * C + c) := by
  rw [← tbAt_step F hr hc, rowBits, hF, if_neg (by simp), ← tbAt_nth F hr hc]
  apply List.ext_getElem?
  intro j
  rw [List.getElem?_set, tbAt_len]
  by_cases hj : r = j
  · subst hj
    simp [hr, nth, tbAt_len]
  · simp [hj]

theorem find1_add {α : Type} {f : Nat → Option α} (m : Nat) : ∀ n, find1 f (m + n) = (find1 f m).or (find1 (fun j => f (m + j)) n)
  | 0 => by simp [find1]
  | n+1 => by
    rw [← Nat.add_assoc, find1_succ, find1_add m n, find1_succ, Option.or_assoc]
theorem find1_mul {α : Type} {f : Nat → Option α} (C : Nat) : ∀ R, find1 f (R * C) = find1 (fun r => find1 (fun c => f (r * C + c)) C) R
  | 0 => by simp [find1]
  | R+1 => by
    rw [Nat.add_mul, Nat.one_mul, find1_add, find1_mul C R, find1_succ]
/-- the spec's way to find four cells -/
def fcT (xs : List Int) (r c s d : Nat) : Option (List Int) := if hasB (nth xs s) c then none else some (four r c s d)
def fcSub (xs : List Int) (r s : Nat) : Nat := sub (nth xs s).toNat (nth xs r).toNat
def fcC (xs : List Int) (r c s : Nat) : Option (List Int) := findE (fcSub xs r s) (fcT xs r c s)
def fcB (xs : List Int) (r c : Nat) : Option (List Int) := find1 (fcC xs r c) xs.length
def fcA (xs : List Int) (r : Nat) : Option (List Int) := findE (nth xs r).toNat (fcB xs r)
/-- the first four cells that refuse a biorder -/
def fcF (xs : List Int) : Option (List Int) := find1 (fcA xs) xs.length
def fcL (n m : Int) (xs : List Int) : List Int := if tabB n m xs then (fcF xs).getD [] else []
def fcO (n m : Int) (xs : List Int) : Bool := tabB n m xs && (fcF xs).isSome
/-- the program's way -/
def fcG (xs : List Int) (r c s d : Nat) : Option (List Int) := if hasB (nth xs s) d && !hasB (nth xs r) d && !hasB (nth xs s) c then some (four r c s d) else none
def fcI (xs : List Int) (C k q : Nat) : Option (List Int) := fcG xs (k / C) (k % C) (q / C) (q % C)
def fcP (xs : List Int) (C D k : Nat) : Option (List Int) := if hasB (nth xs (k / C)) (k % C : Nat) then find1 (fcI xs C k) D else none
theorem tab_lt {n m : Int} {xs : List Int} (hp : TabP n m xs) {k : Nat} (hk : k < xs.length) : (nth xs k).toNat < 2 ^ m.toNat := by
  have h1 := hp.pos k hk
  have h2 := hp.lt k hk
  have h3 : ((2 ^ m.toNat : Nat) : Int) = 2 ^ m.toNat := by simp
  omega
theorem fcC_eq {R C : Nat} {xs : List Int} (hp : TabP R C xs) {r s : Nat} (hr : r < xs.length) (hs : s < xs.length) (c : Nat) : fcC xs r c s = find1 (fun d => fcG xs r c s d) C := by
  have hC : C ≤ 10 := by have := hp.c1; omega
  have hlt := tab_lt hp hs
  rw [Int.toNat_natCast] at hlt
  rw [fcC, findE_eq _ (show fcSub xs r s < 2 ^ C from sub_lt hlt) hC]
  refine find1_congr (fun d _ => ?_)
  have e : (fcSub xs r s).testBit d = (hasB (nth xs s) (d : Int) && !hasB (nth xs r) (d : Int)) := by rw [fcSub, testBit_sub]; rfl
  simp only [e, fcG, fcT]
  cases hasB (nth xs s) (d : Int) <;> cases hasB (nth xs r) (d : Int) <;> cases hasB (nth xs s) (c : Int) <;> rfl
theorem fcF_eq {R C : Nat} {xs : List Int} (hp : TabP R C xs) : find1 (fcP xs C (R * C)) (R * C) = fcF xs := by
  have hC : C ≤ 10 := by have := hp.c1; omega
  have hl : xs.length = R := by have := hp.len; omega
  rw [find1_mul, fcF, hl]
  refine find1_congr (fun r hr => ?_)
  have hlt := tab_lt hp (k := r) (by omega)
  rw [Int.toNat_natCast] at hlt
  rw [fcA, findE_eq _ hlt hC]
  refine find1_congr (fun c hc => ?_)
  obtain ⟨e1, e2⟩ := cell_rc (r := r) hc
  rw [fcP, e1, e2]
  show (if (nth xs r).toNat.testBit c = true then _ else _) = _
  congr 1
  rw [find1_mul, fcB, hl]
  refine find1_congr (fun s hs => ?_)
  rw [fcC_eq hp (by omega) (by omega)]
  refine find1_congr (fun d hd => ?_)
  obtain ⟨e3, e4⟩ := cell_rc (r := s) hd
  rw [fcI, e1, e2, e3, e4]
theorem fcG_four {xs : List Int} {r c s d : Nat} {ys : List Int} (h : fcG xs r c s d = some ys) : ys.length = 4 := by
  unfold fcG at h
  split at h
  · simp only [Option.some.injEq] at h; rw [← h]; rfl
  · cases h
theorem fcF_four {R C : Nat} {xs : List Int} (hp : TabP R C xs) {ys : List Int} (h : fcF xs = some ys) : ys.length = 4 := by
  rw [← fcF_eq hp] at h
  obtain ⟨k, _, h1, _⟩ := find1_ex h
  unfold fcP at h1
  split at h1
  · obtain ⟨q, _, h2, _⟩ := find1_ex h1
    exact fcG_four h2
  · cases h1
theorem tab_nat {n m : Int} {xs : List Int} (hp : TabP n m xs) : ∃ R C : Nat, n = (R : Int) ∧ m = (C : Int) := by
  obtain ⟨R, hR⟩ := Int.eq_ofNat_of_zero_le (show 0 ≤ n by have := hp.r0; omega)
  obtain ⟨C, hC⟩ := Int.eq_ofNat_of_zero_le (show 0 ≤ m by have := hp.c0; omega)
  exact ⟨R, C, hR, hC⟩
theorem fcL_len (n m : Int) (xs : List Int) : (fcL n m xs).length ≤ 1048576 := by
  unfold fcL
  split
  · rename_i h
    have hp := tabB_p h
    obtain ⟨R, C, rfl, rfl⟩ := tab_nat hp
    cases h : fcF xs with
    | none => simp
    | some ys => have := fcF_four hp h; simp; omega
  · simp

/-- the cells with a number, from the first numbers on -/
def selTo (C ns : List Int) (p : Int) : Nat → List Int
  | 0 => []
  | k+1 => if nth ns k = p then selTo C ns p k ++ [nth C k] else selTo C ns p k
theorem selTo_app (C l : List Int) (x p : Int) : ∀ k, k ≤ l.length → selTo C (l ++ [x]) p k = selTo C l p k
  | 0, _ => rfl
  | k+1, hk => by
    have e : nth (l ++ [x]) k = nth l k := by simp [nth, List.getD_eq_getElem?_getD, List.getElem?_append_left (show k < l.length by omega)]
    simp only [selTo]
    rw [selTo_app C l x p k (by omega), e]
theorem selTo_snoc (C l : List Int) (x p : Int) : selTo C (l ++ [x]) p (l ++ [x]).length = if x = p then selTo C l p l.length ++ [nth C l.length] else selTo C l p l.length := by
  have e : nth (l ++ [x]) l.length = x := by simp [nth, List.getD_eq_getElem?_getD]
  rw [List.length_append, List.length_singleton]
  simp only [selTo]
  rw [e, selTo_app C l x p _ (Nat.le_refl _)]
theorem selTo_map (C l : List Int) (s : Int → Int) (hs : ∀ x, s (s x) = x) (p : Int) : ∀ k, k ≤ l.length → selTo C (l.map s) (s p) k = selTo C l p k
  | 0, _ => rfl
  | k+1, hk => by
    have e : nth (l.map s) k = s (nth l k) := by
      simp only [nth, List.getD_eq_getElem?_getD, List.getElem?_map, List.getElem?_eq_getElem (show k < l.length by omega), Option.map_some, Option.getD_some]
    simp only [selTo]
    rw [e, selTo_map C l s hs p k (by omega)]
    have h : (s (nth l k) = s p) ↔ (nth l k = p) := ⟨fun h => by have := congrArg s h; rwa [hs, hs] at this, fun h => by rw [h]⟩
    by_cases h1 : nth l k = p
    · rw [if_pos h1, if_pos (h.2 h1)]
    · rw [if_neg h1, if_neg (fun h2 => h1 (h.1 h2))]
/-- are the cells with each number free? -/
def goodP (fr : List Int → Bool) (C : List Int) (l : List Int) : Nat → Bool
  | 0 => true
  | p+1 => goodP fr C l p && fr (selTo C l (p : Int) l.length)
theorem goodP_iff {fr : List Int → Bool} {C l : List Int} : ∀ {m : Nat}, goodP fr C l m = true ↔ ∀ p : Nat, p < m → fr (selTo C l (p : Int) l.length) = true
  | 0 => by simp [goodP]
  | m+1 => by
    rw [goodP, Bool.and_eq_true, goodP_iff]
    exact ⟨fun ⟨h1, h2⟩ p hp => by
      by_cases e : p = m
      · rw [e]; exact h2
      · exact h1 p (by omega), fun h => ⟨fun p hp => h p (by omega), h m (by omega)⟩⟩
/-- the full search -/
def fullS (fr : List Int → Bool) (C : List Int) (lim : Nat) : Nat → List Int → Option (List Int)
  | 0, l => if goodP fr C l lim then some l else none
  | d+1, l => if goodP fr C l lim then find1 (fun x => fullS fr C lim d (l ++ [(x : Int)])) lim else none
theorem find1_no {α : Type} {f : Nat → Option α} {n : Nat} (h : find1 f n = none) {j : Nat} (hj : j < n) : f j = none := by
  rw [find1, List.findSome?_eq_none_iff] at h
  exact h j (by simpa using hj)
theorem find1_isSome {α : Type} {f : Nat → Option α} {n : Nat} : (find1 f n).isSome = true ↔ ∃ x, x < n ∧ (f x).isSome = true := by
  constructor
  · intro h
    obtain ⟨y, hy⟩ := Option.isSome_iff_exists.1 h
    obtain ⟨k, hk, h1, _⟩ := find1_ex hy
    exact ⟨k, hk, by rw [h1]; rfl⟩
  · rintro ⟨x, hx, h⟩
    cases e : find1 f n with
    | some _ => rfl
    | none => rw [find1_no e hx] at h; cases h
/-- two numbers exchanged -/
def swp (a b x : Int) : Int := if x = a then b else if x = b then a else x
theorem swp_swp (a b x : Int) : swp a b (swp a b x) = x := by
  unfold swp
  repeat' split
  all_goals omega
theorem swp_lt {a b lim x : Nat} (ha : a < lim) (hb : b < lim) (hx : x < lim) : ∃ y : Nat, y < lim ∧ swp (a : Int) (b : Int) (x : Int) = (y : Int) := by
  unfold swp
  split
  · exact ⟨b, hb, rfl⟩
  · split
    · exact ⟨a, ha, rfl⟩
    · exact ⟨x, hx, rfl⟩
theorem goodP_swp {fr : List Int → Bool} {C l : List Int} {lim a b : Nat} (ha : a < lim) (hb : b < lim) (h : goodP fr C l lim = true) : goodP fr C (l.map (swp a b)) lim = true := by
  rw [goodP_iff] at h ⊢
  intro p hp
  obtain ⟨y, hy, e⟩ := swp_lt ha hb hp
  have := selTo_map C l (swp a b) (swp_swp _ _) (y : Int) l.length (Nat.le_refl _)
  rw [← e, swp_swp] at this
  rw [List.length_map, this, e]
  exact h y hy
theorem fullS_swp {fr : List Int → Bool} {C : List Int} {lim a b : Nat} (ha : a < lim) (hb : b < lim) : ∀ (d : Nat) (l : List Int), (fullS fr C lim d l).isSome = true → (fullS fr C lim d (l.map (swp a b))).isSome = true
  | 0, l, h => by
    rw [fullS] at h ⊢
    cases e : goodP fr C l lim
    · rw [e, if_neg (by simp)] at h; cases h
    · rw [goodP_swp ha hb e, if_pos rfl]; rfl
  | d+1, l, h => by
    rw [fullS] at h ⊢
    cases e : goodP fr C l lim
    · rw [e, if_neg (by simp)] at h; cases h
    · rw [e, if_pos rfl] at h
      rw [goodP_swp ha hb e, if_pos rfl]
      rw [find1_isSome] at h ⊢
      obtain ⟨x, hx, h⟩ := h
      obtain ⟨y, hy, e⟩ := swp_lt ha hb hx
      refine ⟨y, hy, ?_⟩
      have := fullS_swp ha hb d _ h
      rw [List.map_append, List.map_cons, List.map_nil, e] at this
      exact this
theorem unTo_gt {l : List Int} : ∀ (k i : Nat), k ≤ l.length → i < k → (∀ j, j < k → 0 ≤ nth l j) → nth l i < ((unTo l k : Nat) : Int)
  | k+1, i, hk, hi, h0 => by
    have := h0 k (by omega)
    simp only [unTo]
    by_cases e : i = k
    · subst e; omega
    · have := unTo_gt k i (by omega) (by omega) (fun j hj => h0 j (by omega)); omega
theorem map_fix {s : Int → Int} {l : List Int} (h : ∀ i, i < l.length → s (nth l i) = nth l i) : l.map s = l := by
  apply List.ext_getElem (by simp)
  intro i h1 h2
  have := h i h2
  rw [nth_get _ _ h2] at this
  rw [List.getElem_map, this]
theorem goodP_snoc {fr : List Int → Bool} {C l : List Int} {lim x : Nat} (hx : x < lim) (h : goodP fr C l lim = true) : goodP fr C (l ++ [(x : Int)]) lim = fr (selTo C (l ++ [(x : Int)]) (x : Int) (l ++ [(x : Int)]).length) := by
  cases e : fr (selTo C (l ++ [(x : Int)]) (x : Int) (l ++ [(x : Int)]).length)
  · cases e2 : goodP fr C (l ++ [(x : Int)]) lim
    · rfl
    · rw [goodP_iff] at e2; rw [e2 x hx] at e; cases e
  · rw [goodP_iff] at h ⊢
    intro p hp
    by_cases ep : x = p
    · rw [← ep]; exact e
    · rw [selTo_snoc, if_neg (by omega)]; exact h p hp
theorem nth_last (l : List Int) (x : Int) : nth (l ++ [x]) ((l ++ [x]).length - 1) = x := by
  rw [List.length_append, List.length_singleton, Nat.add_sub_cancel]
  simp [nth, List.getD_eq_getElem?_getD]
theorem full_cn {fr : List Int → Bool} {C : List Int} {lim : Nat} : ∀ (d : Nat) (l : List Int), LtL lim l → goodP fr C l lim = true → fullS fr C lim d l = cnS (fun L => fr (selTo C L (nth L (L.length - 1)) L.length)) lim d l
  | 0, l, _, hg => by rw [fullS, hg, if_pos rfl]; rfl
  | d+1, l, hl, hg => by
    rw [fullS, hg, if_pos rfl]
    simp only [cnS]
    have hstep : ∀ x, x < lim → fullS fr C lim d (l ++ [(x : Int)]) = (if fr (selTo C (l ++ [(x : Int)]) (nth (l ++ [(x : Int)]) ((l ++ [(x : Int)]).length - 1)) (l ++ [(x : Int)]).length) then cnS (fun L => fr (selTo C L (nth L (L.length - 1)) L.length)) lim d (l ++ [(x : Int)]) else none) := by
      intro x hx
      rw [nth_last]
      have hgs := goodP_snoc hx hg
      cases e : fr (selTo C (l ++ [(x : Int)]) (x : Int) (l ++ [(x : Int)]).length)
      · rw [e] at hgs
        rw [if_neg (by simp)]
        cases d <;> rw [fullS, hgs, if_neg (by simp)]
      · rw [e] at hgs
        rw [if_pos rfl]
        exact full_cn d _ (hl.snoc hx) hgs
    rw [← find1_congr (f := fun x => fullS fr C lim d (l ++ [(x : Int)])) (fun x hx => hstep x (by omega))]
    rcases Nat.lt_or_ge (unTo l l.length + 1) lim with hU | hU
    · rw [show min lim (unTo l l.length + 1) = unTo l l.length + 1 by omega]
      obtain ⟨m, hm⟩ : ∃ m, lim = (unTo l l.length + 1) + m := ⟨lim - (unTo l l.length + 1), by omega⟩
      conv => lhs; arg 2; rw [hm]
      rw [find1_add]
      cases e : find1 (fun x => fullS fr C lim d (l ++ [(x : Int)])) (unTo l l.length + 1) with
      | some _ => rfl
      | none =>
        rw [Option.none_or]
        apply find1_none
        intro j hj
        cases e2 : fullS fr C lim d (l ++ [((unTo l l.length + 1 + j : Nat) : Int)]) with
        | none => rfl
        | some y =>
          exfalso
          have h1 : (fullS fr C lim d (l ++ [((unTo l l.length + 1 + j : Nat) : Int)])).isSome = true := by rw [e2]; rfl
          have h2 := fullS_swp (a := unTo l l.length) (b := unTo l l.length + 1 + j) (by omega) (by omega) d _ h1
          have hfix : l.map (swp ((unTo l l.length : Nat) : Int) ((unTo l l.length + 1 + j : Nat) : Int)) = l := map_fix (fun i hi => by
            have := unTo_gt l.length i (Nat.le_refl _) hi (fun j hj => (hl j hj).1)
            unfold swp
            rw [if_neg (by omega), if_neg (by omega)])
          rw [List.map_append, hfix, List.map_cons, List.map_nil] at h2
          have h3 : swp ((unTo l l.length : Nat) : Int) ((unTo l l.length + 1 + j : Nat) : Int) ((unTo l l.length + 1 + j : Nat) : Int) = ((unTo l l.length : Nat) : Int) := by
            unfold swp; rw [if_neg (by omega), if_pos rfl]
          rw [h3] at h2
          have h4 := find1_no e (show unTo l l.length < unTo l l.length + 1 by omega)
          rw [h4] at h2; cases h2
    · rw [show min lim (unTo l l.length + 1) = lim by omega]

/-- the empty cells below k -/
def ecTo (xs : List Int) (C : Nat) : Nat → List Int
  | 0 => []
  | k+1 => if hasB (nth xs (k / C)) ((k % C : Nat) : Int) then ecTo xs C k else ecTo xs C k ++ [(k : Int)]
def ecL (n m : Int) (xs : List Int) : List Int := if tabB n m xs then ecTo xs m.toNat (n.toNat * m.toNat) else []
theorem ecTo_len (xs : List Int) (C : Nat) : ∀ k, (ecTo xs C k).length ≤ k
  | 0 => Nat.le_refl _
  | k+1 => by
    have := ecTo_len xs C k
    simp only [ecTo]
    split
    · omega
    · simp; omega
theorem ecL_36 (n m : Int) (xs : List Int) : (ecL n m xs).length ≤ 36 := by
  unfold ecL
  split
  · rename_i h
    have hp := tabB_p h
    have h1 := hp.r1
    have h2 := hp.c1
    have h3 : n.toNat * m.toNat ≤ 6 * 6 := Nat.mul_le_mul (by omega) (by omega)
    have := ecTo_len xs m.toNat (n.toNat * m.toNat)
    omega
  · simp
theorem ecL_len (n m : Int) (xs : List Int) : (ecL n m xs).length ≤ 1048576 := by have := ecL_36 n m xs; omega
theorem ecTo_at (xs : List Int) {C r c : Nat} (hc : c < C) : ecTo xs C (r * C + c + 1) = if hasB (nth xs r) (c : Int) then ecTo xs C (r * C + c) else ecTo xs C (r * C + c) ++ [((r * C + c : Nat) : Int)] := by
  obtain ⟨e1, e2⟩ := cell_rc (r := r) hc
  rw [ecTo, e1, e2]

def elemB (i n : Int) : Bool := decide (0 ≤ i) && decide (i < n)
theorem elemB_iff {i n : Int} : elemB i n = true ↔ 0 ≤ i ∧ i < n := by simp [elemB]
theorem elemB_no {i n : Int} : elemB i n = false ↔ i < 0 ∨ n ≤ i := by
  rw [← Bool.not_eq_true, elemB_iff]; omega

/-- the set of the indices below k of the lists that have i -/
def belowTo (xs : List Int) (i : Int) : Nat → Nat
  | 0 => 0
  | k+1 => if hasB (nth xs k) i then belowTo xs i k ||| 2 ^ k else belowTo xs i k
theorem belowTo_lt (xs : List Int) (i : Int) : ∀ k, belowTo xs i k < 2 ^ k
  | 0 => by simp [belowTo]
  | k+1 => by
    have h := belowTo_lt xs i k
    have h2 : 2 ^ k < 2 ^ (k+1) := two_lt (by omega)
    simp only [belowTo]
    split
    · exact or_lt (by omega) h2
    · omega
theorem belowTo_small (xs : List Int) (i : Int) {k : Nat} (h : k ≤ 10) : belowTo xs i k < 1024 := by
  have h1 := belowTo_lt xs i k
  have h2 : 2 ^ k ≤ 2 ^ 10 := Nat.pow_le_pow_right (by omega) h
  omega
theorem belowTo_bit (xs : List Int) (i : Int) (j : Nat) : ∀ k, (belowTo xs i k).testBit j = (decide (j < k) && hasB (nth xs j) i)
  | 0 => by simp [belowTo]
  | k+1 => by
    have h := belowTo_bit xs i j k
    simp only [belowTo]
    by_cases hjk : j = k
    · subst hjk
      cases hb : hasB (nth xs j) i
      · simp [h]
      · simp [Nat.testBit_or, testBit_two]
    · have e : decide (j < k + 1) = decide (j < k) := by
        rw [decide_eq_decide]; omega
      rw [e, ← h]
      have hkj : ¬ k = j := fun e => hjk e.symm
      cases hb : hasB (nth xs k) i <;> simp [Nat.testBit_or, testBit_two, hkj]

def okAtB (xs : List Int) (k : Nat) : Bool := !hasB (nth xs k) k && (List.range xs.length).all (fun j => !hasB (nth xs k) j || sub (nth xs j).toNat (nth xs k).toNat == 0)
/-- is it an order? -/
def ordB (n : Int) (xs : List Int) : Bool := relB n xs && (List.range xs.length).all (okAtB xs)
theorem okAtB_iff {xs : List Int} {k : Nat} : okAtB xs k = true ↔ hasB (nth xs k) k = false ∧ ∀ j, j < xs.length → hasB (nth xs k) j = true → sub (nth xs j).toNat (nth xs k).toNat = 0 := by
  simp only [okAtB, Bool.and_eq_true, Bool.not_eq_true', List.all_eq_true, List.mem_range, Bool.or_eq_true, beq_iff_eq]
  constructor
  · rintro ⟨h1, h2⟩
    exact ⟨h1, fun j hj hb => (h2 j hj).resolve_left (by simp [hb])⟩
  · rintro ⟨h1, h2⟩
    refine ⟨h1, fun j hj => ?_⟩
    cases hb : hasB (nth xs k) j
    · exact .inl rfl
    · exact .inr (h2 j hj hb)
theorem ordB_iff {n : Int} {xs : List Int} : ordB n xs = true ↔ relB n xs = true ∧ ∀ k, k < xs.length → okAtB xs k = true := by
  simp [ordB]
theorem ordB_no {n : Int} {xs : List Int} {k : Nat} (hk : k < xs.length) (h : okAtB xs k = false) : ordB n xs = false := by
  rw [← Bool.not_eq_true, ordB_iff]
  rintro ⟨_, h2⟩
  rw [h2 k hk] at h
  cases h
theorem okAtB_has {xs : List Int} {k : Nat} (h : hasB (nth xs k) k = true) : okAtB xs k = false := by
  simp [okAtB, h]
theorem okAtB_sub {xs : List Int} {k j : Nat} (hj : j < xs.length) (h : hasB (nth xs k) j = true) (h2 : sub (nth xs j).toNat (nth xs k).toNat ≠ 0) : okAtB xs k = false := by
  rw [← Bool.not_eq_true, okAtB_iff]
  rintro ⟨_, h3⟩
  exact h2 (h3 j hj h)
theorem sub_zero {a b : Nat} : sub a b = 0 ↔ ∀ i, a.testBit i = true → b.testBit i = true := by
  constructor
  · intro h i hi
    have := testBit_sub a b i
    rw [h, hi] at this
    simpa using this.symm
  · intro h
    apply Nat.eq_of_testBit_eq
    intro i
    rw [testBit_sub]
    cases ha : a.testBit i
    · simp
    · simp [h i ha]
theorem has_lt {n : Int} {xs : List Int} (hp : RelP n xs) {k : Nat} (hk : k < xs.length) {j : Nat} (h : hasB (nth xs k) j = true) : j < xs.length := by
  rcases Nat.lt_or_ge j xs.length with h' | h'
  · exact h'
  · have h1 := hp.lt k hk
    have h0 := hp.pos k hk
    have h2 : (nth xs k).toNat < 2 ^ j := by
      have : (2 : Nat) ^ xs.length ≤ 2 ^ j := Nat.pow_le_pow_right (by omega) h'
      have e : ((2 ^ xs.length : Nat) : Int) = (2 : Int) ^ xs.length := by simp
      omega
    simp only [hasB] at h
    rw [Int.toNat_natCast, Nat.testBit_lt_two_pow h2] at h
    cases h

/-- the set of all elements above one of those of a set that are less than k -/
def aboveTo (xs : List Int) (s : Int) : Nat → Nat
  | 0 => 0
  | k+1 => if hasB s k then aboveTo xs s k ||| (nth xs k).toNat else aboveTo xs s k
theorem aboveTo_lt {n : Int} {xs : List Int} (hp : RelP n xs) (s : Int) : ∀ k, k ≤ xs.length → aboveTo xs s k < 2 ^ 10
  | 0, _ => by simp [aboveTo]
  | k+1, hk => by
    have h := aboveTo_lt hp s k (by omega)
    have h1 := hp.small k (by omega)
    have h0 := hp.pos k (by omega)
    simp only [aboveTo]
    split
    · exact or_lt h (by omega)
    · exact h
theorem aboveTo_bit (xs : List Int) (s : Int) (j : Nat) : ∀ k, (aboveTo xs s k).testBit j = true ↔ ∃ i, i < k ∧ hasB s i = true ∧ (nth xs i).toNat.testBit j = true
  | 0 => by simp [aboveTo]
  | k+1 => by
    have ih := aboveTo_bit xs s j k
    simp only [aboveTo]
    cases hb : hasB s k
    · rw [if_neg (by simp), ih]
      constructor
      · rintro ⟨i, h1, h2, h3⟩
        exact ⟨i, by omega, h2, h3⟩
      · rintro ⟨i, h1, h2, h3⟩
        have : i ≠ k := fun e => by rw [e, hb] at h2; cases h2
        exact ⟨i, by omega, h2, h3⟩
    · rw [if_pos rfl, Nat.testBit_or, Bool.or_eq_true, ih]
      constructor
      · rintro (⟨i, h1, h2, h3⟩ | h)
        · exact ⟨i, by omega, h2, h3⟩
        · exact ⟨k, by omega, hb, h⟩
      · rintro ⟨i, h1, h2, h3⟩
        by_cases e : i = k
        · subst e; exact .inr h3
        · exact .inl ⟨i, by omega, h2, h3⟩
theorem okAtB_above {xs : List Int} {k : Nat} (h : hasB (nth xs k) k = false) : okAtB xs k = (sub (aboveTo xs (nth xs k) xs.length) (nth xs k).toNat == 0) := by
  rw [Bool.eq_iff_iff, okAtB_iff, beq_iff_eq, sub_zero]
  constructor
  · rintro ⟨_, h2⟩ i hi
    obtain ⟨j, hj, hb, ht⟩ := (aboveTo_bit _ _ _ _).1 hi
    exact sub_zero.1 (h2 j hj hb) i ht
  · intro h2
    refine ⟨h, fun j hj hb => sub_zero.2 (fun i hi => h2 i ((aboveTo_bit _ _ _ _).2 ⟨j, hj, hb, hi⟩))⟩

/-- is the number at k an element, and greater than the one before it? -/
def okI (n : Int) (es : List Int) (k : Nat) : Bool := elemB (nth es k) n && (k == 0 || decide (nth es (k-1) < nth es k))
def incB (n : Int) (es : List Int) : Bool := (List.range es.length).all (okI n es)
theorem incB_iff {n : Int} {es : List Int} : incB n es = true ↔ ∀ k, k < es.length → okI n es k = true := by simp [incB]
theorem incB_no {n : Int} {es : List Int} {k : Nat} (hk : k < es.length) (h : okI n es k = false) : incB n es = false := by
  rw [← Bool.not_eq_true, incB_iff]
  intro h2
  rw [h2 k hk] at h
  cases h
theorem okI_elem {n : Int} {es : List Int} {k : Nat} (h : okI n es k = true) : 0 ≤ nth es k ∧ nth es k < n := by
  simp only [okI, Bool.and_eq_true] at h
  exact elemB_iff.1 h.1
theorem inc_ge {n : Int} {es : List Int} (h : ∀ k, k < es.length → okI n es k = true) : ∀ k, k < es.length → (k : Int) ≤ nth es k
  | 0, hk => by have := (okI_elem (h 0 hk)).1; simpa using this
  | k+1, hk => by
    have ih := inc_ge h k (by omega)
    have := h (k+1) hk
    simp only [okI, Bool.and_eq_true, Bool.or_eq_true, beq_iff_eq, decide_eq_true_eq] at this
    rcases this.2 with h0 | h0
    · omega
    · simp only [Nat.add_sub_cancel] at h0
      push_cast
      omega
theorem inc_len {n : Int} {es : List Int} (h : incB n es = true) (hn : 0 ≤ n) : (es.length : Int) ≤ n := by
  rw [incB_iff] at h
  rcases Nat.eq_zero_or_pos es.length with h0 | h0
  · omega
  · have h1 := inc_ge h (es.length - 1) (by omega)
    have h2 := (okI_elem (h (es.length - 1) (by omega))).2
    omega

def memB (es : List Int) (i : Int) : Bool := (List.range es.length).any (fun k => nth es k == i)
theorem memB_iff {es : List Int} {i : Int} : memB es i = true ↔ ∃ k, k < es.length ∧ nth es k = i := by simp [memB]

theorem l1Has_any (a : Option Addr) (es : List Int) (cap : Nat) (i : Int) (w : World) (hx : Rd w a es) :
    Calls Try.prog 94 #[.slice a es.length cap, .int .i64 i] w fun e w' => e = .returned (.bool (memB es i)) ∧ w = w' := by
  have hlen := hx.len
  go_enter Try.func94, Try.ntmps94
  go_wp2_with fail
  go_loop [9] (fun i' => ∃ k : Nat, k ≤ es.length ∧ i' = .int .i64 k ∧ ∀ j, j < k → nth es j ≠ i) (fun i' => es.length - (intOf i').toNat)
  case atStart => exact ⟨0, Nat.zero_le _, rfl, fun j hj => by omega⟩
  case round =>
    obtain ⟨k, hk, rfl, hall⟩ := hrel
    have HA := Lib.hid hall
    clear hall
    by_cases hlt : k < es.length
    · obtain ⟨b, off, rfl, hbl, hc⟩ := hx.cell k hlt
      cases he : (nth es k == i)
      · have HE := Lib.hid (by simpa using he : nth es k ≠ i)
        go_wp2_with fail
        go_round
        case rel =>
          refine ⟨k + 1, by omega, by go_num, fun j hj => ?_⟩
          by_cases e : j = k
          · rw [e]; exact HE.out
          · exact HA.out j (by omega)
        case measure => simp [intOf]; omega
      · have HM := Lib.hid (memB_iff.2 ⟨k, hlt, by simpa using he⟩)
        go_wp2_with fail
        go_ret
        exact ⟨ret_bool HM.out.symm, rfl⟩
    · obtain rfl : k = es.length := by omega
      have HM : Hid (memB es i = false) := by
        rw [Hid, ← Bool.not_eq_true, memB_iff]
        rintro ⟨j, hj, e⟩
        exact HA.out j hj e
      go_wp2_with fail
      go_ret
      exact ⟨ret_bool HM.out.symm, rfl⟩

/-- is the number at i an empty cell, and greater than the one before it? -/
def okC (xs : List Int) (C : Nat) (D : Int) (cs : List Int) (i : Nat) : Bool := okI D cs i && !hasB (nth xs ((nth cs i).toNat / C)) (((nth cs i).toNat % C : Nat) : Int)
def feB (n m : Int) (xs cs : List Int) : Bool := tabB n m xs && (List.range cs.length).all (okC xs m.toNat ((n.toNat * m.toNat : Nat) : Int) cs)
theorem memB_mem {es : List Int} {x : Int} : memB es x = true ↔ x ∈ es := by
  rw [memB_iff]
  constructor
  · rintro ⟨k, hk, rfl⟩
    rw [nth_get es k hk]; exact List.getElem_mem hk
  · intro h
    obtain ⟨k, hk, e⟩ := List.getElem_of_mem h
    exact ⟨k, hk, by rw [nth_get es k hk, e]⟩
theorem mem_ecTo (xs : List Int) (C : Nat) (x : Int) : ∀ k, x ∈ ecTo xs C k ↔ ∃ i : Nat, i < k ∧ x = (i : Int) ∧ hasB (nth xs (i / C)) ((i % C : Nat) : Int) = false
  | 0 => by simp [ecTo]
  | k+1 => by
    have ih := mem_ecTo xs C x k
    simp only [ecTo]
    cases hb : hasB (nth xs (k / C)) ((k % C : Nat) : Int)
    · rw [if_neg (by simp), List.mem_append, ih]
      constructor
      · rintro (⟨i, h1, h2, h3⟩ | h)
        · exact ⟨i, by omega, h2, h3⟩
        · exact ⟨k, by omega, by simpa using h, hb⟩
      · rintro ⟨i, h1, h2, h3⟩
        by_cases e : i = k
        · exact .inr (by simp [h2, e])
        · exact .inl ⟨i, by omega, h2, h3⟩
    · rw [if_pos rfl, ih]
      constructor
      · rintro ⟨i, h1, h2, h3⟩
        exact ⟨i, by omega, h2, h3⟩
      · rintro ⟨i, h1, h2, h3⟩
        by_cases e : i = k
        · subst e; rw [hb] at h3; cases h3
        · exact ⟨i, by omega, h2, h3⟩
theorem okC_iff {xs : List Int} {C D : Nat} {cs : List Int} {i : Nat} : okC xs C (D : Int) cs i = true ↔ memB (ecTo xs C D) (nth cs i) = true ∧ (i = 0 ∨ nth cs (i-1) < nth cs i) := by
  rw [memB_mem, mem_ecTo]
  simp only [okC, okI, Bool.and_eq_true, Bool.or_eq_true, beq_iff_eq, decide_eq_true_eq, Bool.not_eq_true', elemB_iff]
  constructor
  · rintro ⟨⟨⟨h1, h2⟩, h3⟩, h4⟩
    exact ⟨⟨(nth cs i).toNat, by omega, by omega, h4⟩, h3⟩
  · rintro ⟨⟨k, h1, h2, h3⟩, h4⟩
    refine ⟨⟨⟨by omega, by omega⟩, h4⟩, ?_⟩
    rw [h2, Int.toNat_natCast]
    exact h3
structure FeP (R C : Nat) (xs cs : List Int) : Prop where
  t : TabP R C xs
  pos : ∀ i, i < cs.length → 0 ≤ nth cs i
  lt : ∀ i, i < cs.length → nth cs i < ((R * C : Nat) : Int)
  len : cs.length ≤ R * C
theorem feB_p {n m : Int} {xs cs : List Int} (h : feB n m xs cs = true) : ∃ R C : Nat, n = (R : Int) ∧ m = (C : Int) ∧ FeP R C xs cs := by
  simp only [feB, Bool.and_eq_true, List.all_eq_true, List.mem_range] at h
  have hp := tabB_p h.1
  obtain ⟨R, hR⟩ := Int.eq_ofNat_of_zero_le (show 0 ≤ n by have := hp.r0; omega)
  obtain ⟨C, hC⟩ := Int.eq_ofNat_of_zero_le (show 0 ≤ m by have := hp.c0; omega)
  subst hR hC
  have h2 := h.2
  rw [Int.toNat_natCast, Int.toNat_natCast] at h2
  have hk : ∀ i, i < cs.length → okI ((R * C : Nat) : Int) cs i = true := fun i hi => by
    have := h2 i hi
    simp only [okC, Bool.and_eq_true] at this
    exact this.1
  refine ⟨R, C, rfl, rfl, hp, fun i hi => (okI_elem (hk i hi)).1, fun i hi => (okI_elem (hk i hi)).2, ?_⟩
  have := inc_len (incB_iff.2 hk) (by omega)
  omega
theorem feB_no {n m : Int} {xs cs : List Int} {i : Nat} (hi : i < cs.length) (h : okC xs m.toNat ((n.toNat * m.toNat : Nat) : Int) cs i = false) : feB n m xs cs = false := by
  rw [← Bool.not_eq_true]
  intro h2
  simp only [feB, Bool.and_eq_true, List.all_eq_true, List.mem_range] at h2
  rw [h2.2 i hi] at h
  cases h
theorem feB_yes {n m : Int} {xs cs : List Int} (ht : tabB n m xs = true) (h : ∀ i, i < cs.length → okC xs m.toNat ((n.toNat * m.toNat : Nat) : Int) cs i = true) : feB n m xs cs = true := by
  simp only [feB, Bool.and_eq_true, List.all_eq_true, List.mem_range]
  exact ⟨ht, h⟩

/-- the ways from i to j over elements below k -/
def pw (xs : List Int) : Nat → Nat → Nat → Bool
  | 0, i, j => hasB (nth xs i) (j : Int)
  | k+1, i, j => pw xs k i j || (pw xs k i k && pw xs k k j)
theorem or_self_int {x : Int} (h : 0 ≤ x) : ((x.toNat ||| x.toNat : Nat) : Int) = x := by rw [Nat.or_self]; omega
theorem clRow_nth {xs : List Int} (h : Small xs) {k : Nat} (hk : k < xs.length) : ∀ m, m ≤ xs.length → ∀ i, i < xs.length → nth (clRow xs k m) i = if i < m ∧ hasB (nth xs i) (k : Int) = true then (((nth xs i).toNat ||| (nth xs k).toNat : Nat) : Int) else nth xs i
  | 0, _, i, _ => by simp [clRow]
  | m+1, hm, i, hi => by
    have ih := clRow_nth h hk m (by omega)
    have h1 := ih m (by omega)
    rw [if_neg (by omega)] at h1
    have h2 := ih k hk
    have h3 : nth (clRow xs k m) k = nth xs k := by
      rw [h2]
      split
      · exact or_self_int (h k hk).1
      · rfl
    have hl := clRow_len xs k m
    simp only [clRow, clStep]
    rw [h1, h3]
    cases hb : hasB (nth xs m) (k : Int)
    · rw [if_neg (by simp), ih i hi]
      by_cases e : i = m
      · subst e; simp [hb]
      · have : i < m + 1 ↔ i < m := by omega
        simp [this]
    · rw [if_pos rfl, nth_set (by omega), ih i hi]
      by_cases e : m = i
      · subst e; simp [hb]
      · have : i < m + 1 ↔ i < m := by omega
        simp [e, this]
theorem hasB_or {a b : Nat} {j : Nat} : hasB ((a ||| b : Nat) : Int) (j : Int) = (a.testBit j || b.testBit j) := by
  show (a ||| b).testBit j = _
  rw [Nat.testBit_or]
theorem clAll_pw {xs : List Int} (h : Small xs) : ∀ k, k ≤ xs.length → ∀ i, i < xs.length → ∀ j : Nat, hasB (nth (clAll xs k) i) (j : Int) = pw xs k i j
  | 0, _, i, _, j => rfl
  | k+1, hk, i, hi, j => by
    have ih := clAll_pw h k (by omega)
    have hs := clAll_small h k (by omega)
    have hl := clAll_len xs k
    simp only [clAll]
    rw [clRow_nth hs (by omega) xs.length (by omega) i (by omega)]
    simp only [hi, true_and, ih i hi k, pw]
    cases hb : pw xs k i k
    · rw [if_neg (by simp), ih i hi j]; simp
    · rw [if_pos rfl, hasB_or]
      have e1 := ih i hi j
      have e2 := ih k (by omega) j
      simp only [Bool.true_and]
      rw [← e1, ← e2]; rfl
theorem pw_trans {xs : List Int} {i m j : Nat} : ∀ k, m < k → pw xs k i m = true → pw xs k m j = true → pw xs k i j = true
  | 0, h, _, _ => by omega
  | k+1, h, h1, h2 => by
    simp only [pw, Bool.or_eq_true, Bool.and_eq_true] at h1 h2 ⊢
    by_cases e : m = k
    · subst e
      have a1 : pw xs m i m = true := h1.elim id And.left
      have a2 : pw xs m m j = true := h2.elim id And.right
      exact .inr ⟨a1, a2⟩
    · have hm : m < k := by omega
      rcases h1 with h1 | ⟨h1, h1'⟩
      · rcases h2 with h2 | ⟨h2, h2'⟩
        · exact .inl (pw_trans k hm h1 h2)
        · exact .inr ⟨pw_trans k hm h1 h2, h2'⟩
      · rcases h2 with h2 | ⟨h2, h2'⟩
        · exact .inr ⟨h1, pw_trans k hm h1' h2⟩
        · exact .inr ⟨h1, h2'⟩
theorem pw_of {xs : List Int} {i j : Nat} (h : hasB (nth xs i) (j : Int) = true) : ∀ k, pw xs k i j = true
  | 0 => h
  | k+1 => by simp [pw, pw_of h k]
/-- a set with each element whose better ones it has -/
def DC (xs : List Int) (S : Nat) : Prop := ∀ i j, i < xs.length → j < xs.length → hasB (nth xs i) (j : Int) = true → S.testBit j = true → S.testBit i = true
theorem pw_dc {xs : List Int} {S : Nat} (hd : DC xs S) : ∀ k, k ≤ xs.length → ∀ i j, i < xs.length → j < xs.length → pw xs k i j = true → S.testBit j = true → S.testBit i = true
  | 0, _, i, j, hi, hj, h, hs => hd i j hi hj h hs
  | k+1, hk, i, j, hi, hj, h, hs => by
    simp only [pw, Bool.or_eq_true, Bool.and_eq_true] at h
    rcases h with h | ⟨h1, h2⟩
    · exact pw_dc hd k (by omega) i j hi hj h hs
    · exact pw_dc hd k (by omega) i k hi (by omega) h1 (pw_dc hd k (by omega) k j (by omega) hj h2 hs)
theorem pw_ready {xs : List Int} {S r : Nat} (hd : DC xs S) (hr : ∀ i, i < xs.length → hasB (nth xs i) (r : Int) = true → S.testBit i = true) : ∀ k, k ≤ xs.length → ∀ i, i < xs.length → pw xs k i r = true → S.testBit i = true
  | 0, _, i, hi, h => hr i hi h
  | k+1, hk, i, hi, h => by
    simp only [pw, Bool.or_eq_true, Bool.and_eq_true] at h
    rcases h with h | ⟨h1, h2⟩
    · exact pw_ready hd hr k (by omega) i hi h
    · exact pw_dc hd k (by omega) i k hi (by omega) h1 (pw_ready hd hr k (by omega) k (by omega) h2)
/-- the closed relation -/
def clo (xs : List Int) : List Int := clAll xs xs.length
theorem clo_len (xs : List Int) : (clo xs).length = xs.length := clAll_len _ _
theorem clo_has {xs : List Int} (h : Small xs) {i : Nat} (hi : i < xs.length) (j : Nat) : hasB (nth (clo xs) i) (j : Int) = pw xs xs.length i j := clAll_pw h _ (Nat.le_refl _) i hi j

theorem ord_rel {n : Int} {xs : List Int} (h : ordB n xs = true) : RelP n xs := relB_p (ordB_iff.1 h).1

/-- the set of the first k numbers of a list -/
def setTo (es : List Int) : Nat → Nat
  | 0 => 0
  | k+1 => setTo es k ||| 2 ^ (nth es k).toNat
/-- how many numbers less than n are in a set -/
def card (s : Nat) : Nat → Nat
  | 0 => 0
  | n+1 => card s n + (if s.testBit n then 1 else 0)
theorem card_or (s x : Nat) : ∀ n, card (s ||| 2 ^ x) n = card s n + (if x < n ∧ s.testBit x = false then 1 else 0)
  | 0 => by simp [card]
  | n+1 => by
    have ih := card_or s x n
    simp only [card, ih, Nat.testBit_or, testBit_two]
    by_cases h : x = n
    · subst h
      cases s.testBit x <;> simp
    · have h2 : x < n + 1 ↔ x < n := by omega
      simp only [h, decide_false, Bool.or_false, h2]
      omega
theorem card_le (s : Nat) : ∀ n, card s n ≤ n
  | 0 => Nat.le_refl _
  | n+1 => by
    have := card_le s n
    simp only [card]
    split <;> omega
theorem card_full {s : Nat} : ∀ n, card s n = n → ∀ i, i < n → s.testBit i = true
  | 0, _, i, hi => by omega
  | n+1, h, i, hi => by
    have h1 := card_le s n
    simp only [card] at h
    cases hb : s.testBit n
    · rw [hb] at h
      simp at h
      omega
    · rw [hb] at h
      simp at h
      by_cases e : i = n
      · rw [e]; exact hb
      · exact card_full n h i (by omega)
theorem card_all {s : Nat} : ∀ n, (∀ i, i < n → s.testBit i = true) → card s n = n
  | 0, _ => rfl
  | n+1, h => by
    simp only [card, h n (by omega), if_true]
    rw [card_all n (fun i hi => h i (by omega))]
theorem setTo_bit (es : List Int) (j : Nat) : ∀ k, (setTo es k).testBit j = true ↔ ∃ i, i < k ∧ (nth es i).toNat = j
  | 0 => by simp [setTo]
  | k+1 => by
    have ih := setTo_bit es j k
    simp only [setTo]
    rw [Nat.testBit_or, Bool.or_eq_true, ih, testBit_two, decide_eq_true_eq]
    constructor
    · rintro (⟨i, h1, h2⟩ | h)
      · exact ⟨i, by omega, h2⟩
      · exact ⟨k, by omega, h⟩
    · rintro ⟨i, h1, h2⟩
      by_cases e : i = k
      · subst e; exact .inr h2
      · exact .inl ⟨i, by omega, h2⟩
theorem setTo_lt {es : List Int} {m : Nat} : ∀ k, (∀ i, i < k → (nth es i).toNat < m) → setTo es k < 2 ^ m
  | 0, _ => by simp only [setTo]; exact Nat.two_pow_pos m
  | k+1, h => or_lt (setTo_lt k (fun i hi => h i (by omega))) (two_lt (h k (by omega)))
theorem card_setTo_le {es : List Int} {m : Nat} : ∀ k, card (setTo es k) m ≤ k
  | 0 => by
    have : ∀ m, card 0 m = 0 := by
      intro m
      induction m with
      | zero => rfl
      | succ m ih => simp [card, ih]
    simp [setTo, this]
  | k+1 => by
    have ih := card_setTo_le (es := es) (m := m) k
    simp only [setTo, card_or]
    split <;> omega
/-- is the number at k an element that was not there before? -/
def okN (n : Int) (es : List Int) (k : Nat) : Bool := elemB (nth es k) n && !(setTo es k).testBit (nth es k).toNat
/-- has a list each element once? -/
def permB (n : Int) (es : List Int) : Bool := decide ((es.length : Int) = n) && (List.range es.length).all (okN n es)
theorem permB_iff {n : Int} {es : List Int} : permB n es = true ↔ (es.length : Int) = n ∧ ∀ k, k < es.length → okN n es k = true := by simp [permB]
theorem permB_no {n : Int} {es : List Int} {k : Nat} (hk : k < es.length) (h : okN n es k = false) : permB n es = false := by
  rw [← Bool.not_eq_true, permB_iff]
  rintro ⟨_, h2⟩
  rw [h2 k hk] at h
  cases h
theorem okN_elem {n : Int} {es : List Int} {k : Nat} (h : okN n es k = true) : 0 ≤ nth es k ∧ nth es k < n := by
  simp only [okN, Bool.and_eq_true] at h
  exact elemB_iff.1 h.1
theorem okN_new {n : Int} {es : List Int} {k : Nat} (h : okN n es k = true) : (setTo es k).testBit (nth es k).toNat = false := by
  simp only [okN, Bool.and_eq_true, Bool.not_eq_true'] at h
  exact h.2
theorem card_perm {n : Int} {es : List Int} (h : ∀ k, k < es.length → okN n es k = true) : ∀ k, k ≤ es.length → card (setTo es k) n.toNat = k
  | 0, _ => by
    have := card_setTo_le (es := es) (m := n.toNat) 0
    omega
  | k+1, hk => by
    have ih := card_perm h k (by omega)
    have h1 := h k (by omega)
    have h2 := okN_elem h1
    have h3 := okN_new h1
    simp only [setTo, card_or, ih]
    rw [if_pos ⟨by omega, h3⟩]
/-- in a list that has each element once, each element stands somewhere -/
theorem perm_onto {n : Int} {es : List Int} (h : permB n es = true) {x : Nat} (hx : x < es.length) : ∃ i, i < es.length ∧ nth es i = (x : Int) := by
  rw [permB_iff] at h
  have hc := card_perm h.2 es.length (Nat.le_refl _)
  have hb := card_full n.toNat (by rw [hc]; omega) x (by omega)
  obtain ⟨i, hi, e⟩ := (setTo_bit es x es.length).1 hb
  have := okN_elem (h.2 i hi)
  exact ⟨i, hi, by omega⟩
theorem perm_inj {n : Int} {es : List Int} (h : permB n es = true) {i j : Nat} (hi : i < es.length) (hj : j < es.length) (e : nth es i = nth es j) : i = j := by
  rw [permB_iff] at h
  rcases Nat.lt_trichotomy i j with h1 | h1 | h1
  · have := okN_new (h.2 j hj)
    rw [(setTo_bit es _ j).2 ⟨i, h1, by rw [e]⟩] at this
    cases this
  · exact h1
  · have := okN_new (h.2 i hi)
    rw [(setTo_bit es _ i).2 ⟨j, h1, by rw [e]⟩] at this
    cases this
theorem full_bits (n i : Nat) : (2 ^ n - 1).testBit i = decide (i < n) := Nat.testBit_two_pow_sub_one n i
theorem names_eq {n : Int} {es : List Int} (h0 : 0 ≤ n) : permB n es = (decide ((es.length : Int) = n) && allB es 0 (n - 1) && decide (setTo es es.length = 2 ^ n.toNat - 1)) := by
  rw [Bool.eq_iff_iff]
  constructor
  · intro h
    have h' := permB_iff.1 h
    have hall : allB es 0 (n - 1) = true := by
      simp only [allB, List.all_eq_true]
      intro x hx
      obtain ⟨k, hk, rfl⟩ := mem_nth hx
      have := okN_elem (h'.2 k hk)
      rw [inB_iff]; omega
    have hset : setTo es es.length = 2 ^ n.toNat - 1 := by
      apply Nat.eq_of_testBit_eq
      intro i
      rw [full_bits, Bool.eq_iff_iff, setTo_bit, decide_eq_true_eq]
      constructor
      · rintro ⟨k, hk, rfl⟩
        have := okN_elem (h'.2 k hk)
        omega
      · intro hi
        obtain ⟨k, hk, e⟩ := perm_onto h (x := i) (by omega)
        exact ⟨k, hk, by rw [e]; rfl⟩
    simp [h'.1, hall, hset]
  · intro h
    simp only [Bool.and_eq_true, decide_eq_true_eq] at h
    obtain ⟨⟨h1, h2⟩, h3⟩ := h
    rw [permB_iff]
    refine ⟨h1, fun k hk => ?_⟩
    have hel : ∀ k, k < es.length → 0 ≤ nth es k ∧ nth es k < n := fun k hk => by have := allB_nth h2 hk; omega
    have hk1 := hel k hk
    simp only [okN, Bool.and_eq_true, Bool.not_eq_true']
    refine ⟨elemB_iff.2 hk1, ?_⟩
    -- were it there before, too few would be there in the end
    rw [← Bool.not_eq_true]
    intro hb
    have hle : ∀ m, m ≤ es.length → k < m → card (setTo es m) n.toNat ≤ m - 1 := by
      intro m
      induction m with
      | zero => intro _ hkm; omega
      | succ m ih =>
        intro hm hkm
        simp only [setTo, card_or]
        by_cases e : k = m
        · subst e
          rw [if_neg (by rintro ⟨_, h5⟩; rw [hb] at h5; cases h5)]
          have := card_setTo_le (es := es) (m := n.toNat) k
          omega
        · have := ih (by omega) (by omega)
          split <;> omega
    have h5 := hle es.length (Nat.le_refl _) hk
    rw [h3, card_all n.toNat (fun i hi => by rw [full_bits]; simpa using hi)] at h5
    omega

theorem card_mono {s t : Nat} : ∀ n, (∀ i, i < n → s.testBit i = true → t.testBit i = true) → card s n ≤ card t n
  | 0, _ => Nat.le_refl _
  | n+1, h => by
    have ih := card_mono n (fun i hi => h i (by omega))
    have h1 := h n (by omega)
    simp only [card]
    cases hs : s.testBit n
    · simp; split <;> omega
    · rw [h1 hs]; simp; omega
theorem card_lt {s t : Nat} : ∀ n, (∀ i, i < n → s.testBit i = true → t.testBit i = true) → (∃ i, i < n ∧ s.testBit i = false ∧ t.testBit i = true) → card s n < card t n
  | 0, _, ⟨i, hi, _⟩ => by omega
  | n+1, h, ⟨i, hi, h1, h2⟩ => by
    simp only [card]
    by_cases e : i = n
    · subst e
      have := card_mono i (fun j hj => h j (by omega))
      rw [h1, h2]; simp; omega
    · have ih := card_lt n (fun j hj => h j (by omega)) ⟨i, by omega, h1, h2⟩
      have h3 := h n (by omega)
      cases hs : s.testBit n
      · simp; split <;> omega
      · rw [h3 hs]; simp; omega
/-- may the element come next, when those of a set have come? -/
def firstOk (xs : List Int) (S i : Nat) : Bool := !S.testBit i && decide (sub (belowTo xs (i : Int) xs.length) S = 0)
theorem firstOk_iff {xs : List Int} {S i : Nat} : firstOk xs S i = true ↔ S.testBit i = false ∧ sub (belowTo xs (i : Int) xs.length) S = 0 := by simp [firstOk]
theorem below_sub {n : Int} {xs : List Int} (h : ordB n xs = true) {i j : Nat} (hj : j < xs.length) (hji : hasB (nth xs j) i = true) :
    card (belowTo xs (j : Int) xs.length) xs.length < card (belowTo xs (i : Int) xs.length) xs.length := by
  have ho := (ordB_iff.1 h).2
  refine card_lt _ (fun m hm hb => ?_) ⟨j, hj, ?_, ?_⟩
  · rw [belowTo_bit] at hb ⊢
    simp only [hm, decide_true, Bool.true_and] at hb ⊢
    have h1 := (okAtB_iff.1 (ho m hm)).2 j hj hb
    exact sub_zero.1 h1 _ hji
  · rw [belowTo_bit]
    simp only [hj, decide_true, Bool.true_and]
    exact (okAtB_iff.1 (ho j hj)).1
  · rw [belowTo_bit]
    simp only [hj, decide_true, Bool.true_and]
    exact hji
theorem first_some {n : Int} {xs : List Int} (h : ordB n xs = true) (S : Nat) : ∀ c i, i < xs.length → S.testBit i = false → card (belowTo xs (i : Int) xs.length) xs.length < c → ∃ m, m < xs.length ∧ firstOk xs S m = true
  | 0, _, _, _, hc => by omega
  | c+1, i, hi, hS, hc => by
    by_cases hz : sub (belowTo xs (i : Int) xs.length) S = 0
    · exact ⟨i, hi, firstOk_iff.2 ⟨hS, hz⟩⟩
    · rw [sub_zero] at hz
      simp only [Classical.not_forall] at hz
      obtain ⟨j, hb, hn⟩ := hz
      rw [belowTo_bit] at hb
      simp only [Bool.and_eq_true, decide_eq_true_eq] at hb
      have := below_sub h hb.1 hb.2
      exact first_some h S c j hb.1 (by simpa using hn) (by omega)
theorem first_ex {n : Int} {xs : List Int} (h : ordB n xs = true) {S : Nat} (hc : card S xs.length < xs.length) : ∃ m, m < xs.length ∧ firstOk xs S m = true := by
  by_cases hz : ∀ i, i < xs.length → S.testBit i = true
  · rw [card_all _ hz] at hc; omega
  · simp only [Classical.not_forall] at hz
    obtain ⟨i, hi, hn⟩ := hz
    exact first_some h S _ i hi (by simpa using hn) (Nat.lt_succ_self _)
/-- the first element that may come next -/
def nxt (xs : List Int) (S : Nat) : Nat := ((List.range xs.length).find? (firstOk xs S)).getD 0
theorem nxt_eq {xs : List Int} {S m : Nat} (hm : m < xs.length) (h : firstOk xs S m = true) (hb : ∀ j, j < m → firstOk xs S j = false) : nxt xs S = m := by
  have : (List.range xs.length).find? (firstOk xs S) = some m := by
    rw [List.find?_range_eq_some]
    exact ⟨h, by simpa using hm, fun j hj => by simp [hb j hj]⟩
  rw [nxt, this]; rfl
theorem nxt_ok {xs : List Int} {S : Nat} (h : ∃ m, m < xs.length ∧ firstOk xs S m = true) : nxt xs S < xs.length ∧ firstOk xs S (nxt xs S) = true ∧ ∀ j, j < nxt xs S → firstOk xs S j = false := by
  obtain ⟨m, hm, h1⟩ := h
  cases hf : (List.range xs.length).find? (firstOk xs S) with
  | none =>
    rw [List.find?_eq_none] at hf
    exact absurd h1 (hf m (by simpa using hm))
  | some x =>
    have hx := List.find?_range_eq_some.1 hf
    have e : nxt xs S = x := by rw [nxt, hf]; rfl
    rw [e]
    exact ⟨by simpa using hx.2.1, hx.1, fun j hj => by simpa using hx.2.2 j hj⟩
/-- the first k elements of the first extension, and the set of them -/
def firsts (xs : List Int) : Nat → List Int
  | 0 => []
  | k+1 => firsts xs k ++ [((nxt xs (setTo (firsts xs k) k) : Nat) : Int)]
theorem firsts_len (xs : List Int) : ∀ k, (firsts xs k).length = k
  | 0 => rfl
  | k+1 => by simp [firsts, firsts_len xs k]
theorem setTo_app {es : List Int} {x : Int} : ∀ k, k ≤ es.length → setTo (es ++ [x]) k = setTo es k
  | 0, _ => rfl
  | k+1, h => by
    simp only [setTo, setTo_app (es := es) (x := x) k (by omega)]
    have : nth (es ++ [x]) k = nth es k := by simp [nth, List.getD_eq_getElem?_getD, List.getElem?_append_left (show k < es.length by omega)]
    rw [this]
/-- the set of the first k elements of the first extension -/
def fset (xs : List Int) (k : Nat) : Nat := setTo (firsts xs k) k
theorem fset_next (xs : List Int) (k : Nat) : fset xs (k+1) = fset xs k ||| 2 ^ nxt xs (fset xs k) := by
  have hl := firsts_len xs k
  simp only [fset, setTo, firsts]
  rw [setTo_app k (by omega)]
  have : nth (firsts xs k ++ [((nxt xs (setTo (firsts xs k) k) : Nat) : Int)]) k = ((nxt xs (setTo (firsts xs k) k) : Nat) : Int) := by
    simp [nth, List.getD_eq_getElem?_getD, List.getElem?_append_right (show (firsts xs k).length ≤ k by omega), hl]
  rw [this]; rfl
theorem fset_card {n : Int} {xs : List Int} (h : ordB n xs = true) : ∀ k, k ≤ xs.length → card (fset xs k) xs.length = k ∧ fset xs k < 2 ^ xs.length
  | 0, _ => by
    have := card_setTo_le (es := firsts xs 0) (m := xs.length) 0
    exact ⟨by simp only [fset]; omega, Nat.two_pow_pos _⟩
  | k+1, hk => by
    have ih := fset_card h k (by omega)
    have h1 := nxt_ok (first_ex h (S := fset xs k) (by omega))
    have h2 := (firstOk_iff.1 h1.2.1).1
    rw [fset_next]
    exact ⟨by rw [card_or, ih.1, if_pos ⟨h1.1, h2⟩], or_lt ih.2 (two_lt h1.1)⟩
def fstL (n : Int) (xs : List Int) : List Int := if ordB n xs then firsts xs xs.length else []
theorem fstL_len (n : Int) (xs : List Int) : (fstL n xs).length ≤ 1048576 := by
  unfold fstL
  split
  · rename_i h
    have hp := ord_rel h
    rw [firsts_len]
    have := hp.len; have := hp.n1; omega
  · simp

theorem firstOk_ready {xs : List Int} {S r : Nat} : firstOk xs S r = true ↔ S.testBit r = false ∧ ∀ i, i < xs.length → hasB (nth xs i) (r : Int) = true → S.testBit i = true := by
  rw [firstOk_iff, sub_zero]
  constructor
  · rintro ⟨h1, h2⟩
    exact ⟨h1, fun i hi hb => h2 i (by rw [belowTo_bit]; simp [hi, hb])⟩
  · rintro ⟨h1, h2⟩
    refine ⟨h1, fun i hi => ?_⟩
    rw [belowTo_bit] at hi
    simp only [Bool.and_eq_true, decide_eq_true_eq] at hi
    exact h2 i hi.1 hi.2
theorem firstOk_clo {xs : List Int} (h : Small xs) {S : Nat} (hd : DC xs S) (r : Nat) : firstOk (clo xs) S r = firstOk xs S r := by
  rw [Bool.eq_iff_iff, firstOk_ready, firstOk_ready, clo_len]
  constructor
  · rintro ⟨h1, h2⟩
    exact ⟨h1, fun i hi hb => h2 i hi (by rw [clo_has h hi]; exact pw_of hb _)⟩
  · rintro ⟨h1, h2⟩
    refine ⟨h1, fun i hi hb => ?_⟩
    rw [clo_has h hi] at hb
    exact pw_ready hd h2 _ (Nat.le_refl _) i hi hb
/-- the first k steps have found an element each -/
def OkTo (ys : List Int) (k : Nat) : Prop := ∀ j, j < k → nxt ys (fset ys j) < ys.length ∧ firstOk ys (fset ys j) (nxt ys (fset ys j)) = true
theorem OkTo.card {ys : List Int} {k : Nat} (h : OkTo ys k) : ∀ j, j ≤ k → card (fset ys j) ys.length = j ∧ fset ys j < 2 ^ ys.length
  | 0, _ => by
    have := card_setTo_le (es := firsts ys 0) (m := ys.length) 0
    exact ⟨by simp only [fset]; omega, Nat.two_pow_pos _⟩
  | j+1, hj => by
    have ih := h.card j (by omega)
    have h1 := h j (by omega)
    have h2 := (firstOk_iff.1 h1.2).1
    rw [fset_next]
    exact ⟨by rw [card_or, ih.1, if_pos ⟨h1.1, h2⟩], or_lt ih.2 (two_lt h1.1)⟩
theorem firsts_nth (ys : List Int) : ∀ k j, j < k → nth (firsts ys k) j = ((nxt ys (fset ys j) : Nat) : Int)
  | 0, j, hj => by omega
  | k+1, j, hj => by
    have hl := firsts_len ys k
    simp only [firsts]
    by_cases e : j = k
    · have : nth (firsts ys k ++ [((nxt ys (setTo (firsts ys k) k) : Nat) : Int)]) j = ((nxt ys (fset ys k) : Nat) : Int) := by
        simp [nth, List.getD_eq_getElem?_getD, List.getElem?_append_right (show (firsts ys k).length ≤ j by omega), hl, e, fset]
      rw [this, e]
    · have ih := firsts_nth ys k j (by omega)
      have : nth (firsts ys k ++ [((nxt ys (setTo (firsts ys k) k) : Nat) : Int)]) j = nth (firsts ys k) j := by
        simp [nth, List.getD_eq_getElem?_getD, List.getElem?_append_left (show j < (firsts ys k).length by omega)]
      rw [this]; exact ih
theorem fset_bit (ys : List Int) (k m : Nat) : (fset ys k).testBit m = true ↔ ∃ j, j < k ∧ nxt ys (fset ys j) = m := by
  rw [fset, setTo_bit]
  constructor
  · rintro ⟨j, hj, e⟩
    rw [firsts_nth ys k j hj] at e
    exact ⟨j, hj, e⟩
  · rintro ⟨j, hj, e⟩
    exact ⟨j, hj, by rw [firsts_nth ys k j hj]; exact e⟩
theorem firsts_memB (ys : List Int) (k m : Nat) : memB (firsts ys k) (m : Int) = (fset ys k).testBit m := by
  rw [Bool.eq_iff_iff, memB_iff, fset_bit, firsts_len]
  constructor
  · rintro ⟨j, hj, e⟩
    rw [firsts_nth ys k j hj] at e
    exact ⟨j, hj, by omega⟩
  · rintro ⟨j, hj, e⟩
    exact ⟨j, hj, by rw [firsts_nth ys k j hj, e]⟩
theorem OkTo.dc {xs : List Int} (hsm : Small xs) {k : Nat} (h : OkTo (clo xs) k) : ∀ j, j ≤ k → DC xs (fset (clo xs) j)
  | 0, _ => fun a b _ _ _ hs => by
    rw [fset_bit] at hs
    obtain ⟨j, hj, _⟩ := hs
    omega
  | j+1, hj => fun a b ha hb hab hs => by
    have ih := h.dc hsm j (by omega)
    have h1 := h j (by omega)
    rw [firstOk_clo hsm ih, firstOk_ready] at h1
    rw [fset_next, Nat.testBit_or, testBit_two] at hs ⊢
    simp only [Bool.or_eq_true, decide_eq_true_eq] at hs ⊢
    rcases hs with hs | hs
    · exact .inl (ih a b ha hb hab hs)
    · subst hs
      exact .inl (h1.2.2 a ha hab)
/-- all steps have found an element: the closed relation is an order -/
theorem OkTo.ord {xs : List Int} {n : Int} (hp : RelP n xs) (h : OkTo (clo xs) xs.length) : ordB n (clo xs) = true := by
  have hsm := hp.sm
  have hl := clo_len xs
  have hn := hp.len
  have hirr : ∀ i, i < xs.length → pw xs xs.length i i = false := by
    intro i hi
    rw [← Bool.not_eq_true]
    intro hb
    have hc := (h.card xs.length (Nat.le_refl _)).1
    rw [hl] at hc
    have hall := card_full _ hc i hi
    obtain ⟨j, hj, e⟩ := (fset_bit _ _ _).1 hall
    have h1 := (h j hj).2
    rw [firstOk_ready, e] at h1
    have := h1.2 i (by omega) (by rw [clo_has hsm hi]; exact hb)
    rw [h1.1] at this
    cases this
  have hlt : ∀ k, k ≤ xs.length → ∀ i, i < xs.length → ∀ j, pw xs k i j = true → j < xs.length := by
    intro k
    induction k with
    | zero =>
      intro _ i hi j hb
      exact has_lt hp hi hb
    | succ k ih =>
      intro hk i hi j hb
      simp only [pw, Bool.or_eq_true, Bool.and_eq_true] at hb
      rcases hb with hb | hb
      · exact ih (by omega) i hi j hb
      · exact ih (by omega) k (by omega) j hb.2
  have hrow : ∀ i, i < xs.length → 0 ≤ nth (clo xs) i ∧ (nth (clo xs) i).toNat < 2 ^ xs.length := by
    intro i hi
    refine ⟨(clAll_small hsm xs.length (Nat.le_refl _) i (by rw [clAll_len]; exact hi)).1, ?_⟩
    apply Nat.lt_of_not_le
    intro hge
    obtain ⟨j, hj, hb⟩ := Nat.exists_ge_and_testBit_of_ge_two_pow hge
    have h1 : hasB (nth (clo xs) i) (j : Int) = true := hb
    rw [clo_has hsm hi] at h1
    have := hlt _ (Nat.le_refl _) i hi j h1
    omega
  rw [ordB_iff]
  refine ⟨relB_iff.2 ⟨⟨hp.n0, hp.n1⟩, by rw [hl]; exact hn, ?_⟩, fun k hk => okAtB_iff.2 ⟨?_, fun j hj hb => ?_⟩⟩
  · simp only [allB, List.all_eq_true]
    intro x hx
    obtain ⟨i, hi, rfl⟩ := List.getElem_of_mem hx
    rw [hl] at hi
    have h1 := hrow i hi
    rw [← nth_get _ _ (by omega), inB_iff]
    have e : n.toNat = xs.length := by omega
    have h3 : ((2 ^ xs.length : Nat) : Int) = (2 : Int) ^ xs.length := by simp
    rw [e]
    omega
  · rw [hl] at hk
    rw [clo_has hsm hk]
    exact hirr k hk
  · rw [hl] at hk hj
    rw [sub_zero]
    intro m hm
    have h1 : hasB (nth (clo xs) j) (m : Int) = true := hm
    rw [clo_has hsm hk] at hb
    rw [clo_has hsm hj] at h1
    have h2 := pw_trans (i := k) (j := m) xs.length hj hb h1
    have h3 : hasB (nth (clo xs) k) (m : Int) = true := by rw [clo_has hsm hk]; exact h2
    exact h3
/-- a step that finds nothing: it is none -/
theorem OkTo.stuck {xs : List Int} {n : Int} (hsm : Small xs) {k : Nat} (h : OkTo (clo xs) k) (hk : k < xs.length) (hno : ∀ r, r < xs.length → firstOk xs (fset (clo xs) k) r = false) : ordB n (clo xs) = false := by
  rw [← Bool.not_eq_true]
  intro ho
  have hl := clo_len xs
  have hc := (h.card k (Nat.le_refl _)).1
  obtain ⟨m, hm, h1⟩ := first_ex ho (S := fset (clo xs) k) (by omega)
  rw [firstOk_clo hsm (h.dc hsm k (Nat.le_refl _))] at h1
  rw [hno m (by omega)] at h1
  cases h1
theorem OkTo.next {xs : List Int} (hsm : Small xs) {k m : Nat} (h : OkTo (clo xs) k) (hm : m < xs.length) (h1 : firstOk xs (fset (clo xs) k) m = true) (hb : ∀ j, j < m → firstOk xs (fset (clo xs) k) j = false) : nxt (clo xs) (fset (clo xs) k) = m ∧ OkTo (clo xs) (k+1) := by
  have hl := clo_len xs
  have hd := h.dc hsm k (Nat.le_refl _)
  have e : nxt (clo xs) (fset (clo xs) k) = m := nxt_eq (by omega) (by rw [firstOk_clo hsm hd]; exact h1) (fun j hj => by rw [firstOk_clo hsm hd]; exact hb j hj)
  refine ⟨e, fun j hj => ?_⟩
  by_cases ej : j = k
  · subst ej
    rw [e]
    exact ⟨by omega, by rw [firstOk_clo hsm hd]; exact h1⟩
  · exact h j (by omega)

/-- is r later than s, by the first q cells? -/
def foT (xs cs : List Int) (C q s r : Nat) : Bool := (List.range q).any fun i => decide ((nth cs i).toNat / C = s) && hasB (nth xs r) (((nth cs i).toNat % C : Nat) : Int)
def foL (xs cs : List Int) (C R q : Nat) : List Int := fmap (fun s => ((rowBits (foT xs cs C q s) R : Nat) : Int)) R
theorem foL_len (xs cs : List Int) (C R q : Nat) : (foL xs cs C R q).length = R := fmap_len _ _
theorem foT_iff {xs cs : List Int} {C q s r : Nat} : foT xs cs C q s r = true ↔ ∃ i, i < q ∧ (nth cs i).toNat / C = s ∧ hasB (nth xs r) (((nth cs i).toNat % C : Nat) : Int) = true := by
  simp [foT]
theorem foT_succ {xs cs : List Int} {C q s r : Nat} : foT xs cs C (q+1) s r = (foT xs cs C q s r || (decide ((nth cs q).toNat / C = s) && hasB (nth xs r) (((nth cs q).toNat % C : Nat) : Int))) := by
  simp only [foT]
  rw [List.range_succ, List.any_append]
  simp
theorem foL_zero (xs cs : List Int) (C R : Nat) : foL xs cs C R 0 = List.replicate R 0 := by
  apply List.ext_getElem?
  intro j
  simp only [foL, fmap, List.getElem?_map, List.getElem?_replicate]
  by_cases h : j < R
  · have e : rowBits (foT xs cs C 0 j) R = 0 := by
      apply Nat.eq_of_testBit_eq
      intro i
      rw [rowBits_bit]
      simp [foT]
    simp [h, e]
  · simp [h]
theorem foL_nth {xs cs : List Int} {C R q s : Nat} (h : s < R) : nth (foL xs cs C R q) s = ((rowBits (foT xs cs C q s) R : Nat) : Int) := fmap_nth _ h
theorem foL_step {xs cs : List Int} {C R q s d : Nat} (hs : s < R) (h1 : (nth cs q).toNat / C = s) (h2 : (nth cs q).toNat % C = d) :
    (foL xs cs C R q).set s ((rowBits (foT xs cs C q s) R ||| rowBits (fun r => hasB (nth xs r) (d : Int)) R : Nat) : Int) = foL xs cs C R (q+1) := by
  apply List.ext_getElem?
  intro j
  rw [List.getElem?_set, foL_len]
  by_cases hj : s = j
  · subst hj
    simp only [if_true, hs, foL, fmap, List.getElem?_map, List.getElem?_range hs, Option.map_some]
    congr 2
    apply Nat.eq_of_testBit_eq
    intro i
    rw [Nat.testBit_or, rowBits_bit, rowBits_bit, rowBits_bit, foT_succ, h1, h2]
    cases decide (i < R) <;> simp
  · simp only [hj, if_false, foL, fmap, List.getElem?_map]
    by_cases h : j < R
    · simp only [List.getElem?_range h, Option.map_some]
      congr 2
      refine rowBits_congr (fun i hi => ?_)
      rw [foT_succ, h1]
      simp [hj]
    · have : (List.range R)[j]? = none := by simp; omega
      simp [this]
theorem foL_has {xs cs : List Int} {C R q s : Nat} (h : s < R) (r : Nat) : hasB (nth (foL xs cs C R q) s) (r : Int) = (decide (r < R) && foT xs cs C q s r) := by
  rw [foL_nth h]
  show (rowBits (foT xs cs C q s) R).testBit r = _
  rw [rowBits_bit]
theorem foL_rel {xs cs : List Int} {C R q : Nat} (hR : R ≤ 10) : RelP (R : Int) (foL xs cs C R q) := by
  have hl := foL_len xs cs C R q
  have hb : ∀ k, k < R → nth (foL xs cs C R q) k = ((rowBits (foT xs cs C q k) R : Nat) : Int) ∧ rowBits (foT xs cs C q k) R < 2 ^ R := fun k hk => ⟨foL_nth hk, rowBits_lt _ _⟩
  have h1024 : 2 ^ R ≤ 2 ^ 10 := Nat.pow_le_pow_right (by omega) hR
  have h3 : ((2 ^ R : Nat) : Int) = (2 : Int) ^ R := by simp
  refine ⟨by omega, by omega, by rw [hl], fun k hk => ?_, fun k hk => ?_, fun k hk => ?_⟩
  · rw [hl] at hk; rw [(hb k hk).1]; omega
  · rw [hl] at hk ⊢; have := hb k hk; rw [this.1]; omega
  · rw [hl] at hk; have := hb k hk; rw [this.1]; omega
/-- the relation that cells ask for -/
def foA (R C : Nat) (xs cs : List Int) : List Int := foL xs cs C R cs.length
theorem foA_len (R C : Nat) (xs cs : List Int) : (foA R C xs cs).length = R := foL_len _ _ _ _ _
/-- the order of the rows, if there is one -/
def frX (R C : Nat) (xs cs : List Int) : List Int := if ordB R (clo (foA R C xs cs)) then firsts (clo (foA R C xs cs)) R else []
def frO (n m : Int) (xs cs : List Int) : Bool := feB n m xs cs && ordB n (clo (foA n.toNat m.toNat xs cs))
def frL (n m : Int) (xs cs : List Int) : List Int := if frO n m xs cs then firsts (clo (foA n.toNat m.toNat xs cs)) n.toNat else []
theorem frL_len (n m : Int) (xs cs : List Int) : (frL n m xs cs).length ≤ 1048576 := by
  unfold frL
  split
  · rename_i h
    simp only [frO, Bool.and_eq_true] at h
    obtain ⟨R, C, rfl, rfl, hp⟩ := feB_p h.1
    have := hp.t.r1
    rw [firsts_len]; omega
  · simp
theorem frO_no {n m : Int} {xs cs : List Int} (h : feB n m xs cs = false) : frO n m xs cs = false ∧ frL n m xs cs = [] := by
  have : frO n m xs cs = false := by simp [frO, h]
  exact ⟨this, by simp [frL, this]⟩
theorem frO_yes {R C : Nat} {xs cs : List Int} (h : feB R C xs cs = true) : frO R C xs cs = ordB R (clo (foA R C xs cs)) ∧ frL R C xs cs = frX R C xs cs := by
  have : frO R C xs cs = ordB R (clo (foA R C xs cs)) := by simp [frO, h]
  exact ⟨this, by simp [frL, this, frX]⟩
/-- have all rows that must stand before r come? -/
def rdB (xs cs : List Int) (C S r q : Nat) : Bool := (List.range q).all fun i => S.testBit ((nth cs i).toNat / C) || !hasB (nth xs r) (((nth cs i).toNat % C : Nat) : Int)
theorem rdB_succ {xs cs : List Int} {C S r q : Nat} : rdB xs cs C S r (q+1) = (rdB xs cs C S r q && (S.testBit ((nth cs q).toNat / C) || !hasB (nth xs r) (((nth cs q).toNat % C : Nat) : Int))) := by
  simp only [rdB]
  rw [List.range_succ, List.all_append]
  simp
theorem rdB_ok {R C : Nat} {xs cs : List Int} (hp : FeP R C xs cs) {S r : Nat} (hr : r < R) : firstOk (foA R C xs cs) S r = (!S.testBit r && rdB xs cs C S r cs.length) := by
  have hc0 : 0 < C := by have := hp.t.c0; omega
  rw [Bool.eq_iff_iff, firstOk_ready, foA_len]
  simp only [Bool.and_eq_true, Bool.not_eq_true', rdB, List.all_eq_true, List.mem_range, Bool.or_eq_true]
  refine and_congr_right fun _ => ⟨fun h i hi => ?_, fun h s hs hb => ?_⟩
  · cases hb : hasB (nth xs r) (((nth cs i).toNat % C : Nat) : Int)
    · exact .inr rfl
    · refine .inl (h _ ?_ ?_)
      · have h1 := hp.lt i hi
        have h2 := hp.pos i hi
        exact Nat.div_lt_of_lt_mul (by rw [Nat.mul_comm]; omega)
      · rw [foA, foL_has (by
          have h1 := hp.lt i hi
          have h2 := hp.pos i hi
          exact Nat.div_lt_of_lt_mul (by rw [Nat.mul_comm]; omega))]
        simp only [hr, decide_true, Bool.true_and]
        exact foT_iff.2 ⟨i, hi, rfl, hb⟩
  · rw [foA, foL_has hs] at hb
    simp only [hr, decide_true, Bool.true_and] at hb
    obtain ⟨i, hi, h1, h2⟩ := foT_iff.1 hb
    rcases h i hi with h3 | h3
    · rw [← h1]; exact h3
    · rw [h2] at h3; cases h3
/-- the least row from j on that may come next, or -1 -/
def NxI (ys : List Int) (S R j : Nat) (v : Int) : Prop := (v = -1 ∧ ∀ i, j ≤ i → i < R → firstOk ys S i = false) ∨ ∃ m : Nat, v = (m : Int) ∧ j ≤ m ∧ m < R ∧ firstOk ys S m = true ∧ ∀ i, j ≤ i → i < m → firstOk ys S i = false
theorem NxI.start (ys : List Int) (S R : Nat) : NxI ys S R R (-1) := .inl ⟨rfl, fun i h1 h2 => by omega⟩
theorem NxI.no {ys : List Int} {S R j : Nat} {v : Int} (h : NxI ys S R (j+1) v) (hf : firstOk ys S j = false) : NxI ys S R j v := by
  have hh : ∀ (P : Nat → Prop), (∀ i, j + 1 ≤ i → P i → firstOk ys S i = false) → ∀ i, j ≤ i → P i → firstOk ys S i = false := fun P h i h1 h2 => by
    by_cases e : i = j
    · subst e; exact hf
    · exact h i (by omega) h2
  rcases h with ⟨e, h⟩ | ⟨m, e, h1, h2, h3, h4⟩
  · exact .inl ⟨e, hh (· < R) h⟩
  · exact .inr ⟨m, e, by omega, h2, h3, hh (· < m) h4⟩
theorem NxI.yes {ys : List Int} {S R j : Nat} (hj : j < R) (hf : firstOk ys S j = true) : NxI ys S R j (j : Int) := .inr ⟨j, rfl, Nat.le_refl _, hj, hf, fun i h1 h2 => by omega⟩

theorem selTo_sub (C ns : List Int) (p : Int) : ∀ k, k ≤ C.length → (selTo C ns p k).Sublist (C.take k)
  | 0, _ => by simp [selTo]
  | k+1, hk => by
    have ih := selTo_sub C ns p k (by omega)
    have e : C.take (k+1) = C.take k ++ [nth C k] := by
      rw [List.take_succ_eq_append_getElem (by omega), nth_get _ _ (by omega)]
    rw [e]
    simp only [selTo]
    split
    · exact List.Sublist.append ih (List.Sublist.refl _)
    · exact ih.trans (List.sublist_append_left _ _)
theorem ecTo_rise (xs : List Int) (C : Nat) : ∀ k, (ecTo xs C k).Pairwise (· < ·)
  | 0 => List.Pairwise.nil
  | k+1 => by
    have ih := ecTo_rise xs C k
    simp only [ecTo]
    split
    · exact ih
    · rw [List.pairwise_append]
      refine ⟨ih, List.pairwise_singleton _ _, ?_⟩
      intro x hx y hy
      obtain ⟨i, hi, rfl, _⟩ := (mem_ecTo xs C x k).1 hx
      rw [List.mem_singleton] at hy
      omega
theorem feB_sub {n m : Int} {xs cs : List Int} (ht : tabB n m xs = true) (h : cs.Sublist (ecL n m xs)) : feB n m xs cs = true := by
  have hE : ecL n m xs = ecTo xs m.toNat (n.toNat * m.toNat) := by unfold ecL; rw [if_pos ht]
  rw [hE] at h
  have hp := (ecTo_rise xs m.toNat (n.toNat * m.toNat)).sublist h
  refine feB_yes ht (fun i hi => okC_iff.2 ⟨memB_mem.2 (h.subset ?_), ?_⟩)
  · rw [nth_get _ _ hi]; exact List.getElem_mem hi
  · by_cases e : i = 0
    · exact .inl e
    · right
      rw [List.pairwise_iff_getElem] at hp
      rw [nth_get _ _ hi, nth_get _ _ (show i - 1 < cs.length by omega)]
      exact hp (i-1) i (by omega) hi (by omega)
theorem sel_feB {n m : Int} {xs : List Int} (ht : tabB n m xs = true) (ns : List Int) (p : Int) (k : Nat) (hk : k ≤ (ecL n m xs).length) : feB n m xs (selTo (ecL n m xs) ns p k) = true :=
  feB_sub ht ((selTo_sub _ ns p k hk).trans (List.take_sublist _ _))
theorem zero_ord : ∀ R : Nat, R < 7 → ordB (R : Int) (clo (List.replicate R (0 : Int))) = true := by decide +kernel
theorem frO_nil {n m : Int} {xs : List Int} (ht : tabB n m xs = true) : frO n m xs [] = true := by
  have hp := tabB_p ht
  have h1 := hp.r1
  have h0 := hp.r0
  obtain ⟨R, hR⟩ := Int.eq_ofNat_of_zero_le (show 0 ≤ n by omega)
  subst hR
  unfold frO foA
  rw [feB_yes ht (fun i hi => by simp at hi), List.length_nil, foL_zero, Int.toNat_natCast, zero_ord R (by omega)]
  rfl
/-- do the cells with the last number of a list fit? -/
def fitB (n m : Int) (xs L : List Int) : Bool := frO n m xs (selTo (ecL n m xs) L (nth L (L.length - 1)) L.length)
def spG (n m : Int) (xs : List Int) (p : Int) : Bool := tabB n m xs && decide ((ecL n m xs).length ≤ 9) && decide (1 ≤ p) && decide (p ≤ 4)
def spO (n m : Int) (xs : List Int) (p : Int) : Option (List Int) := if spG n m xs p then cnS (fitB n m xs) p.toNat (ecL n m xs).length [] else none
def spV (n m : Int) (xs : List Int) (p : Int) : List Int := (spO n m xs p).getD []
def spB (n m : Int) (xs : List Int) (p : Int) : Bool := (spO n m xs p).isSome
theorem spV_len (n m : Int) (xs : List Int) (p : Int) : (spV n m xs p).length ≤ 1048576 := by
  unfold spV
  cases h : spO n m xs p with
  | none => simp
  | some ys =>
    unfold spO at h
    split at h
    · have := cnS_len h
      have h2 := ecL_36 n m xs
      simp only [Option.getD_some]
      simp only [List.length_nil] at this
      omega
    · cases h
theorem sp_full {n m : Int} {xs : List Int} {p : Nat} (h : spG n m xs (p : Int) = true) : spO n m xs (p : Int) = fullS (frO n m xs) (ecL n m xs) p (ecL n m xs).length [] := by
  have ht : tabB n m xs = true := by simp only [spG, Bool.and_eq_true] at h; exact h.1.1.1
  unfold spO
  rw [if_pos h, Int.toNat_natCast, full_cn _ _ (fun i hi => by simp at hi) ?_]
  · rfl
  · rw [goodP_iff]
    intro q _
    exact frO_nil ht

/-- one number more at the end of a row that is owned -/
theorem push_at {ops : Array Oper} {rest : List Oper} {o : Oper} {a : Act} {Q : Exit → Act → World → Prop} (hgd : o.guard = none) (s x : Operand)
    (ho : o.op = .call { callee := .builtin .append, args := #[s, x], argTypes := #[22, 22] }) {wr : World} {B : Nat} {v : Value} {ys : List Int} {z : Int}
    (hs : a.eval s = v) (hown : OwnI wr B v ys) (hx : a.eval x = .slice (some ⟨wr.heap.size, 0, none⟩) 1 1) (h63 : ys.length ≤ 1048576) (hB : B ≤ wr.heap.size)
    (h : ∀ v' w', OwnI w' B v' (ys ++ [z]) → wr.grownBy w' v.ownBlock → (v'.ownBlock = v.ownBlock ∨ v'.ownBlock = some (wr.heap.size + 1)) → wpList Try.prog ops Q rest (a.put o.dst v') w') :
    wpList Try.prog ops Q (o :: rest) a (wr.alloc (.cells #[.int .i64 z] 3)) := by
  obtain ⟨i0, hi, hz0, hz1, hz2⟩ := info_parts infoInt
  refine wpList_append_own_at _ hgd s x 22 ho B 3 i0 (.int .i64 0) 1 8 Try.underlying22 hi hz0 hz1 hz2 rfl (by decide) v ys.length (ys.map (Value.int .i64)) hs (hown.alloc _) ⟨wr.heap.size, 0, none⟩ 1 1 [.int .i64 z] hx rfl (cell_one_new _ _ _) (by intro u hu; simp at hu; subst hu; rfl) (by unfold maxLen; omega) (by omega) (by simp; omega) ?_
  intro v' w' ho2 hg _ hat
  refine h v' w' ?_ (grown_alloc_set hg) (by simpa using hat)
  unfold OwnI
  rw [List.length_append, List.map_append]
  exact ho2
/-- the same at a step of a region that draws its order; the new number lies somewhere -/
theorem step_push {ops : Array Oper} {o : Oper} {a : Act} {K : Act → World → Prop} {Q : Exit → Act → World → Prop} {E : Prop} (hgd : o.guard = none) (s x : Operand)
    (ho : o.op = .call { callee := .builtin .append, args := #[s, x], argTypes := #[22, 22] }) {W : World} {B g n : Nat} {v : Value} {ys : List Int} {z : Int}
    (hs : a.eval s = v) (hx : a.eval x = .slice (some ⟨g, 0, none⟩) 1 1) (hown : OwnI W B v ys) (hn : ys.length = n) (hz : W.cell? ⟨g, 0, none⟩ = some (.int .i64 z)) (h63 : n ≤ 1048576) (hB : B ≤ W.heap.size)
    (h : ∀ g' cap w', OwnI w' B (.slice (some ⟨g', 0, none⟩) (n + 1) cap) (ys ++ [z]) → W.grownBy w' v.ownBlock → (v.ownBlock = some g' ∨ g' = W.heap.size) → K (a.put o.dst (.slice (some ⟨g', 0, none⟩) (n + 1) cap)) w') :
    if Region.wanted o (yielded ops a.tmps) = true then Oper.wp Try.prog o a W K Q else E := by
  subst hn
  obtain ⟨i0, hi, hz0, hz1, hz2⟩ := info_parts infoInt
  refine step_append_lies W hgd s x 22 ho B 3 i0 (.int .i64 0) 1 8 Try.underlying22 hi hz0 hz1 hz2 rfl (by decide) v ys.length (ys.map (Value.int .i64)) hs hown ⟨g, 0, none⟩ 1 1 [.int .i64 z] hx rfl ?_ (by intro u hu; simp at hu; subst hu; rfl) (by omega) (by unfold maxLen; omega) (by omega) hB W.heap.size rfl ?_
  · intro j u hj
    obtain ⟨hlt, e⟩ := List.getElem?_eq_some_iff.1 hj
    have h0 : j = 0 := by simpa using hlt
    subst h0
    simp at e
    subst e
    rw [Addr.add_lit]; simpa using hz
  · intro g' cap w' ho2 hg hat _
    refine h g' cap w' ?_ hg hat
    unfold OwnI
    rw [List.length_append, List.map_append]
    exact ho2
theorem news_after {w w3 : World} {x : Int} {m : Nat} (h : Below ((w.drewN m).alloc (.cells #[.int .i64 x] 3)).heap.size ((w.drewN m).alloc (.cells #[.int .i64 x] 3)) w3) : w3.cell? ⟨w.heap.size, 0, none⟩ = some (.int .i64 x) :=
  (h.cell (p := ⟨w.heap.size, 0, none⟩) (show w.heap.size < ((w.drewN m).alloc _).heap.size by rw [World.size_alloc]; exact Nat.lt_succ_of_le (Joins.below_draws w.heap.size w m).size)).trans ((show ∀ W : World, (W.alloc (.cells #[.int .i64 x] 3)).cell? ⟨W.heap.size, 0, none⟩ = some (.int .i64 x) from fun W => by simp) (w.drewN m))
theorem below_after {w w3 : World} {m : Nat} {o : Obj} (h : Below ((w.drewN m).alloc o).heap.size ((w.drewN m).alloc o) w3) : Below w.heap.size w w3 :=
  Below.trans ((Joins.below_draws w.heap.size w m).alloc (Joins.below_draws w.heap.size w m).size _) (h.mono (Nat.le_trans (Joins.below_draws w.heap.size w m).size (by simp)))
theorem below_drew {w w3 : World} {m : Nat} (h : Below (w.drewN m).heap.size (w.drewN m) w3) : Below w.heap.size w w3 :=
  Below.trans (Joins.below_draws w.heap.size w m) (h.mono (Joins.below_draws w.heap.size w m).size)
/-- two values that own no block together -/
def SepV (v u : Value) : Prop := ∀ c, v.ownBlock = some c → u.ownBlock ≠ some c
theorem SepV.symm {v u : Value} (h : SepV v u) : SepV u v := fun c e e2 => h c e2 e
/-- the first of two rows has grown -/
theorem SepV.grow {w : World} {B : Nat} {v v' u : Value} {ys : List Int} {m : Nat} (h : SepV v u) (hu : OwnI w B u ys) (hm : w.heap.size ≤ m) (hat : v'.ownBlock = v.ownBlock ∨ v'.ownBlock = some m) : SepV v' u := by
  intro c e e2
  rcases hat with h1 | h1
  · exact h c (h1 ▸ e) e2
  · rw [h1] at e
    have := (hu.lt c e2).2
    simp only [Option.some.injEq] at e
    omega

theorem selTo_len (C ns : List Int) (p : Int) : ∀ k, (selTo C ns p k).length ≤ k
  | 0 => Nat.le_refl _
  | k+1 => by
    have := selTo_len C ns p k
    simp only [selTo]
    split
    · simp; omega
    · omega
theorem iSel_any (a : Option Addr) (C : List Int) (cap : Nat) (b : Option Addr) (ns : List Int) (cap2 : Nat) (p : Int) (w : World) (hx : Rd w a C) (hy : Rd w b ns) (hl : ns.length ≤ C.length) (h36 : C.length ≤ 36) :
    Calls Try.prog 85 #[.slice a C.length cap, .slice b ns.length cap2, .int .i64 p] w fun e w' => ∃ a' cap', e = .returned (.slice a' (selTo C ns p ns.length).length cap') ∧ OwnI w' w.heap.size (.slice a' (selTo C ns p ns.length).length cap') (selTo C ns p ns.length) ∧ Below w.heap.size w w' := by
  have hylen := hy.len
  go_enter Try.func85, Try.ntmps85
  go_wp2_with fail
  go_loopw [7, 12] (fun s i wq => ∃ k : Nat, k ≤ ns.length ∧ i = .int .i64 k ∧ OwnI wq w.heap.size s (selTo C ns p k) ∧ Below w.heap.size w wq) (fun _ i _ => ns.length - (intOf i).toNat)
  case atStart => exact ⟨0, Nat.zero_le _, rfl, OwnI.nil _ _, Below.refl _ _⟩
  case round =>
    obtain ⟨k, hk, rfl, ho, hb⟩ := hrel
    by_cases hlt : k < ns.length
    · have hsl := selTo_len C ns p k
      obtain ⟨b1, o1, rfl, hbl, hc⟩ := (hy.below hb).cell k hlt
      obtain ⟨b2, o2, rfl, hbl2, hc2⟩ := (hx.below hb).cell k (by omega)
      by_cases hE : nth ns k = p
      · have hE1 : (nth ns k == p) = true := by simp [hE]
        have h3 : (k : Int) < (C.length : Int) := by omega
        have HS : Hid (selTo C ns p (k+1) = selTo C ns p k ++ [nth C k]) := by rw [Hid, selTo, if_pos hE]
        have HO := Lib.hid ho
        have HB := Lib.hid hb
        have hbs := hb.size
        clear ho hb hE
        go_wp2_with (at_builtin; refine push_at rfl _ _ rfl rfl HO.out rfl (by omega) hbs ?_; intro v5 w5 o5 hg5 hat5)
        have b5 := HB.out.trans (below_of_grown hg5 (fun b e => (HO.out.lt b e).1) hbs)
        rw [← HS.out] at o5
        clear hat5 hg5
        go_roundw
        case rel => exact ⟨k + 1, by omega, by go_num, o5, b5⟩
        case measure => simp [intOf]; omega
      · have hE1 : (nth ns k == p) = false := by simp [hE]
        have HS : Hid (selTo C ns p (k+1) = selTo C ns p k) := by rw [Hid, selTo, if_neg hE]
        have HO := Lib.hid ho
        have HB := Lib.hid hb
        clear ho hb hE
        go_wp2_with fail
        go_roundw
        case rel => exact ⟨k + 1, by omega, by go_num, by rw [HS.out]; exact HO.out, HB.out⟩
        case measure => simp [intOf]; omega
    · obtain rfl : k = ns.length := by omega
      obtain ⟨a', cap', rfl⟩ := ho.form
      go_wp2_with fail
      go_ret
      exact ⟨_, _, rfl, ho, hb⟩
theorem sSel_any (a : Option Addr) (C : List Int) (cap : Nat) (b : Option Addr) (ns : List Int) (cap2 : Nat) (p : Int) (w : World) (hx : Rd w a C) (hy : Rd w b ns) (hl : ns.length ≤ C.length) (h36 : C.length ≤ 36) :
    Calls Try.prog 98 #[.slice a C.length cap, .slice b ns.length cap2, .int .i64 p] w fun e w' => ∃ a' cap', e = .returned (.slice a' (selTo C ns p ns.length).length cap') ∧ OwnI w' w.heap.size (.slice a' (selTo C ns p ns.length).length cap') (selTo C ns p ns.length) ∧ Below w.heap.size w w' := by
  have hylen := hy.len
  go_enter Try.func98, Try.ntmps98
  go_wp2_with fail
  go_loopw [7, 12] (fun s i wq => ∃ k : Nat, k ≤ ns.length ∧ i = .int .i64 k ∧ OwnI wq w.heap.size s (selTo C ns p k) ∧ Below w.heap.size w wq) (fun _ i _ => ns.length - (intOf i).toNat)
  case atStart => exact ⟨0, Nat.zero_le _, rfl, OwnI.nil _ _, Below.refl _ _⟩
  case round =>
    obtain ⟨k, hk, rfl, ho, hb⟩ := hrel
    by_cases hlt : k < ns.length
    · have hsl := selTo_len C ns p k
      obtain ⟨b1, o1, rfl, hbl, hc⟩ := (hy.below hb).cell k hlt
      obtain ⟨b2, o2, rfl, hbl2, hc2⟩ := (hx.below hb).cell k (by omega)
      by_cases hE : nth ns k = p
      · have hE1 : (nth ns k == p) = true := by simp [hE]
        have h3 : (k : Int) < (C.length : Int) := by omega
        have HS : Hid (selTo C ns p (k+1) = selTo C ns p k ++ [nth C k]) := by rw [Hid, selTo, if_pos hE]
        have HO := Lib.hid ho
        have HB := Lib.hid hb
        have hbs := hb.size
        clear ho hb hE
        go_wp2_with (at_builtin; refine push_at rfl _ _ rfl rfl HO.out rfl (by omega) hbs ?_; intro v5 w5 o5 hg5 hat5)
        have b5 := HB.out.trans (below_of_grown hg5 (fun b e => (HO.out.lt b e).1) hbs)
        rw [← HS.out] at o5
        clear hat5 hg5
        go_roundw
        case rel => exact ⟨k + 1, by omega, by go_num, o5, b5⟩
        case measure => simp [intOf]; omega
      · have hE1 : (nth ns k == p) = false := by simp [hE]
        have HS : Hid (selTo C ns p (k+1) = selTo C ns p k) := by rw [Hid, selTo, if_neg hE]
        have HO := Lib.hid ho
        have HB := Lib.hid hb
        clear ho hb hE
        go_wp2_with fail
        go_roundw
        case rel => exact ⟨k + 1, by omega, by go_num, by rw [HS.out]; exact HO.out, HB.out⟩
        case measure => simp [intOf]; omega
    · obtain rfl : k = ns.length := by omega
      obtain ⟨a', cap', rfl⟩ := ho.form
      go_wp2_with fail
      go_ret
      exact ⟨_, _, rfl, ho, hb⟩

theorem l1Has_is {a : Option Addr} {es : List Int} {cap : Nat} {i : Int} {b : Bool} {w : World} (hx : Rd w a es) (h : memB es i = b) (m : Nat) :
    Calls Try.prog 94 #[.slice a es.length cap, .int .i64 i] (w.drewN m) fun e w' => e = .returned (.bool b) ∧ ∃ k, w' = w.drewN k :=
  Calls.quiet_of_same ((l1Has_any a es cap i (w.drewN m) (hx.below (Joins.below_draws _ _ _))).mono (fun e w' hh => ⟨by rw [← h]; exact hh.1, hh.2.symm⟩))

theorem orHas_any (s i : Int) (w : World) (h0 : 0 ≤ s) (h1 : s ≤ 9223372036854775807) (hi : 0 ≤ i) :
    Calls Try.prog 57 #[.int .i64 s, .int .i64 i] w fun e w' => e = .returned (.bool (hasB s i)) ∧ w = w' := by
  have H := Lib.hid (has_mod h0 h1 hi)
  go_enter Try.func57, Try.ntmps57
  go_wp2
  go_ret
  exact ⟨ret_bool H.out, rfl⟩

theorem orHas_is {s i : Int} {b : Bool} (h0 : 0 ≤ s) (h1 : s ≤ 9223372036854775807) (hi : 0 ≤ i) (h : hasB s i = b) (w : World) (m : Nat) :
    Calls Try.prog 57 #[.int .i64 s, .int .i64 i] (w.drewN m) fun e w' => e = .returned (.bool b) ∧ ∃ k, w' = w.drewN k :=
  Calls.quiet_of_same ((orHas_any s i (w.drewN m) h0 h1 hi).mono (fun e w' hh => ⟨by rw [← h]; exact hh.1, hh.2.symm⟩))

def lenF : Value → Nat
  | .slice _ n _ => n
  | _ => 0
set_option maxRecDepth 100000 in
set_option maxHeartbeats 4000000 in
theorem feOrder_any (R C : Nat) (a : Option Addr) (xs : List Int) (cap : Nat) (b : Option Addr) (cs : List Int) (cap2 : Nat) (w : World) (hx : Rd w a xs) (hy : Rd w b cs) (hp : FeP R C xs cs) :
    Calls Try.prog 76 #[.agg #[.int .i64 (R : Int), .int .i64 (C : Int), .slice a xs.length cap], .slice b cs.length cap2] w fun e w' => ∃ a' cap', e = .returned (.tuple #[.slice a' (frX R C xs cs).length cap', .bool (ordB R (clo (foA R C xs cs)))]) ∧ OwnI w' w.heap.size (.slice a' (frX R C xs cs).length cap') (frX R C xs cs) ∧ Below w.heap.size w w' := by
  have hpos : 0 < xs.length := by have := hp.t.r0; have := hp.t.len; omega
  obtain ⟨bA, oA, rfl, _, _⟩ := hx.cell 0 hpos
  have r1 : R ≤ 6 := by have := hp.t.r1; omega
  have c0 : 1 ≤ C := by have := hp.t.c0; omega
  have c1 : C ≤ 6 := by have := hp.t.c1; omega
  have hl : xs.length = R := by have := hp.t.len; omega
  have hlen := hy.len
  have HL := Lib.hid hl
  have HP := Lib.hid hp
  obtain ⟨ys, hys⟩ : ∃ ys, ys = foA R C xs cs := ⟨_, rfl⟩
  have hyl : ys.length = R := by rw [hys, foA_len]
  have hrel : RelP (R : Int) ys := by rw [hys]; exact foL_rel (by omega)
  have HSM := Lib.hid hrel.sm
  have HRL := Lib.hid hrel
  have HYL := Lib.hid hyl
  have HRD : Hid (∀ S r, r < R → firstOk ys S r = (!S.testBit r && rdB xs cs C S r cs.length)) := fun S r hr => by rw [hys]; exact rdB_ok hp hr
  have HXE : Hid (frX R C xs cs = if ordB R (clo ys) then firsts (clo ys) R else []) := by rw [Hid, hys]; rfl
  have HCP : Hid (∀ q, q < cs.length → ∃ k : Nat, nth cs q = (k : Int) ∧ k < R * C) := fun q hq => by
    have h1 := hp.pos q hq
    have h2 := hp.lt q hq
    exact ⟨(nth cs q).toNat, by omega, by omega⟩
  have HRC : Hid (R * C ≤ 36) := Nat.mul_le_mul r1 c1
  have A0 := Box3.new w (.int .i64 (R : Int)) (.int .i64 (C : Int)) (.slice (some ⟨bA, oA, none⟩) xs.length cap) 27
  have b0 : Below w.heap.size w (w.alloc (.cells #[.int .i64 (R : Int), .int .i64 (C : Int), .slice (some ⟨bA, oA, none⟩) xs.length cap] 27)) := (by repeat (first | exact Below.refl _ _ | assumption | refine Below.alloc ?_ (by first | exact Nat.le_refl _ | (simp only [World.size_alloc, World.size_setCell, World.size_drew]; omega) | omega) _ | refine Below.setCell ?_ (by first | exact Nat.le_refl _ | (simp only [World.size_alloc, World.size_setCell, World.size_drew]; omega) | omega) _ | refine Below.drew ?_))
  have H0 := Lib.hid (And.intro A0 b0)
  have HX := Lib.hid hx
  have HY := Lib.hid hy
  rw [← hys]
  clear hp hl hyl hrel A0 b0 hx hy hys
  go_enter Try.func76, Try.ntmps76
  go_wp2_with fail
  go_loopw [6] (fun v wr => ∃ k : Nat, k ≤ R ∧ lenF v = k ∧ OwnI wr (w.heap.size + 1) v (firsts (clo ys) k) ∧ OkTo (clo ys) k ∧ Below w.heap.size w wr ∧ Box3 wr w.heap.size (.int .i64 (R : Int)) (.int .i64 (C : Int)) (.slice (some ⟨bA, oA, none⟩) xs.length cap)) (fun v _ => R - lenF v)
  case atStart => exact ⟨0, Nat.zero_le _, rfl, OwnI.nil _ _, fun j hj => by omega, H0.out.2, H0.out.1⟩
  case round =>
    obtain ⟨k, hk, hvk, hown, hok, hb, hA⟩ := hrel
    obtain ⟨av, capv, rfl⟩ := hown.form
    simp only [firsts_len] at hown hvk ⊢
    clear hvk
    have HO := Lib.hid hown
    have HK := Lib.hid hok
    have HB := Lib.hid hb
    have HA := Lib.hid hA
    have hbs := hb.size
    have ⟨zA, cA, dA, eA⟩ := hA
    by_cases hlt : k < R
    · obtain ⟨S, hS⟩ : ∃ S, S = fset (clo ys) k := ⟨_, rfl⟩
      have HSE := Lib.hid hS
      have HMB : Hid (∀ r : Nat, memB (firsts (clo ys) k) (r : Int) = S.testBit r) := fun r => by rw [hS]; exact firsts_memB _ _ _
      obtain ⟨W1, hW1⟩ : ∃ x : World, x = wr := ⟨_, rfl⟩
      subst hW1
      clear hS hown hok hb hA
      go_wp2_with fail
      clear cA dA eA
      go_loopw [7, 8] (fun v i wi => ∃ (j : Nat) (nx : Int), j ≤ R ∧ i = .int .i64 ((j : Int) - 1) ∧ v = .int .i64 nx ∧ NxI ys S R j nx ∧ Below W1.heap.size W1 wi) (fun _ i _ => (intOf i + 1).toNat)
      case atStart => exact ⟨R, -1, Nat.le_refl _, rfl, rfl, NxI.start _ _ _, Below.refl _ _⟩
      case round =>
        obtain ⟨j, nx, hj, rfl, rfl, hnx, hbi⟩ := hrel
        have HNX := Lib.hid hnx
        have HBI := Lib.hid hbi
        have HAI := Lib.hid (HA.out.below hbi)
        have HOI := Lib.hid (HO.out.below hbi (Nat.le_refl _))
        have ⟨zI, cI, dI, eI⟩ := HA.out.below hbi
        clear hnx hbi
        by_cases hj0 : 0 < j
        · obtain ⟨r, hr⟩ : ∃ r, j = r + 1 := ⟨j - 1, by omega⟩
          have hji : (j : Int) - 1 = (r : Int) := by omega
          rw [hji]
          have hrR : r < R := by omega
          have HRR := Lib.hid (HRD.out S r hrR)
          have HJ := Lib.hid hr
          have r0 : (0 : Int) ≤ (r : Int) := by omega
          have rl : (r : Int) < (xs.length : Int) := by have := HL.out; omega
          have hrx : r < xs.length := by have := HL.out; omega
          have p0 := HP.out.t.pos r hrx
          have p1 : nth xs r ≤ 9223372036854775807 := by have := HP.out.t.small r hrx; omega
          have hHas := l1Has_any av (firsts (clo ys) k) capv (r : Int) wr HOI.out.rd
          rw [firsts_len, HMB.out] at hHas
          have HHAS := Lib.hid hHas
          clear hji hHas
          cases hS : S.testBit r
          · have HST := Lib.hid hS
            clear hS hr
            go_wp2_with fail
            refine HHAS.out.mono ?_
            rw [HST.out]
            rintro e w' ⟨rfl, rfl⟩
            go_wp2_with fail
            clear cI dI eI
            obtain ⟨W2, hW2⟩ : ∃ x : World, x = wr := ⟨_, rfl⟩
            subst hW2
            go_loopw [9, 30] (fun v i wi => ∃ q : Nat, q ≤ cs.length ∧ i = .int .i64 q ∧ v = .bool (rdB xs cs C S r q) ∧ Below W2.heap.size W2 wi) (fun _ i _ => cs.length - (intOf i).toNat)
            case atStart => exact ⟨0, Nat.zero_le _, rfl, rfl, Below.refl _ _⟩
            case round =>
              obtain ⟨q, hq, rfl, rfl, hbq⟩ := hrel
              have HBQ := Lib.hid hbq
              have HAQ := Lib.hid (HAI.out.below hbq)
              have HOQ := Lib.hid (HOI.out.below hbq (Nat.le_refl _))
              have HXQ := Lib.hid ((HX.out.below (HB.out.trans (HBI.out.mono hbs))).below (hbq.mono (Nat.le_refl _)))
              have HYQ := Lib.hid ((HY.out.below (HB.out.trans (HBI.out.mono hbs))).below (hbq.mono (Nat.le_refl _)))
              have ⟨zQ, cQ, dQ, eQ⟩ := HAI.out.below hbq
              clear hbq
              by_cases hlt2 : q < cs.length
              · obtain ⟨b3, off3, rfl, hbl3, hc3⟩ := HYQ.out.cell q hlt2
                obtain ⟨c, hce, hcl⟩ := HCP.out q hlt2
                have hc36 : c ≤ 36 := by have := HRC.out; omega
                rw [hce] at hc3
                obtain ⟨s, hs⟩ : ∃ s, s = c / C := ⟨_, rfl⟩
                obtain ⟨d, hd⟩ : ∃ d, d = c % C := ⟨_, rfl⟩
                have hle : c / C ≤ c := Nat.div_le_self _ _
                have hdv : ∀ x : Int, x = (c : Int) / (C : Int) → wrap64 x = (s : Int) := fun x hx9 => by
                  rw [hx9, show (c : Int) / (C : Int) = ((c / C : Nat) : Int) from rfl, ← hs]
                  exact IntWalk.wrap64_in _ ⟨by omega, by omega⟩
                have hdv3 : (c : Int) / (C : Int) = (s : Int) := by rw [hs]; rfl
                have hrm2 : Hid ((c : Int) % (C : Int) = (d : Int)) := by rw [Hid, hd]; rfl
                have cq0 : (0 : Int) ≤ (c : Int) % (C : Int) := by rw [hrm2.out]; exact Int.natCast_nonneg _
                have HRS : Hid (rdB xs cs C S r (q+1) = (rdB xs cs C S r q && (S.testBit s || !hasB (nth xs r) (d : Int)))) := by
                  rw [Hid, rdB_succ, hce, Int.toNat_natCast, ← hs, ← hd]
                have s36 : s ≤ 36 := by omega
                have hHas2 : memB (firsts (clo ys) k) (s : Int) = S.testBit s := HMB.out s
                obtain ⟨b4, off4, e4, hbl4, hc4⟩ := HXQ.out.cell r hrx
                simp only [Option.some.injEq, Addr.mk.injEq, and_true] at e4
                obtain ⟨rfl, rfl⟩ := e4
                have HL2 : Hid (∀ (b : Bool), S.testBit s = b → ∀ m, Calls Try.prog 94 #[.slice av k capv, .int .i64 (s : Int)] (wr.drewN m) fun e w' => e = .returned (.bool b) ∧ ∃ k, w' = wr.drewN k) := fun b hb m => by
                  have := l1Has_is (cap := capv) HOQ.out.rd (hHas2.trans hb) m
                  rwa [firsts_len] at this
                clear hle hs hd hce hHas2
                cases hSs : S.testBit s
                · cases hh : hasB (nth xs r) (d : Int)
                  · have HE : Hid (rdB xs cs C S r (q+1) = rdB xs cs C S r q) := by rw [Hid, HRS.out, hSs, hh]; simp
                    have HH : Hid (hasB (nth xs r) ((c : Int) % (C : Int)) = false) := by rw [Hid, hrm2.out]; exact hh
                    have HSS := Lib.hid hSs
                    clear hh hSs
                    go_wp2_with fail
                    go_quiet ((first | (go_at_call 94; exact HL2.out _ HSS.out _) | (go_at_call 57; exact orHas_is p0 p1 cq0 HH.out _ _)))
                    go_wp2_with fail
                    go_roundw
                    case rel => exact ⟨q + 1, by omega, by go_num, by rw [HE.out], HBQ.out.trans (Joins.below_draws _ _ _)⟩
                    case measure => simp [intOf] <;> omega
                  · have HE : Hid (rdB xs cs C S r (q+1) = false) := by rw [Hid, HRS.out, hSs, hh]; simp
                    have HH : Hid (hasB (nth xs r) ((c : Int) % (C : Int)) = true) := by rw [Hid, hrm2.out]; exact hh
                    have HSS := Lib.hid hSs
                    clear hh hSs
                    go_wp2_with fail
                    go_quiet ((first | (go_at_call 94; exact HL2.out _ HSS.out _) | (go_at_call 57; exact orHas_is p0 p1 cq0 HH.out _ _)))
                    go_wp2_with fail
                    go_roundw
                    case rel => exact ⟨q + 1, by omega, by go_num, by rw [HE.out], HBQ.out.trans (Joins.below_draws _ _ _)⟩
                    case measure => simp [intOf] <;> omega
                · have HE : Hid (rdB xs cs C S r (q+1) = rdB xs cs C S r q) := by rw [Hid, HRS.out, hSs]; simp
                  have HSS := Lib.hid hSs
                  clear hSs
                  go_wp2_with fail
                  go_quiet ((go_at_call 94; exact HL2.out _ HSS.out _))
                  go_wp2_with fail
                  go_roundw
                  case rel => exact ⟨q + 1, by omega, by go_num, by rw [HE.out], HBQ.out.trans (Joins.below_draws _ _ _)⟩
                  case measure => simp [intOf] <;> omega
              · have HQE : Hid (rdB xs cs C S r q = rdB xs cs C S r cs.length) := by
                  have : q = cs.length := by omega
                  rw [Hid, this]
                cases hrd : rdB xs cs C S r cs.length
                · have HF : Hid (firstOk ys S r = false) := by rw [Hid, HRR.out, hrd]; simp
                  have HQ2 : Hid (rdB xs cs C S r q = false) := by rw [Hid, HQE.out, hrd]
                  clear hrd
                  rw [HQ2.out]
                  go_wp2_with fail
                  go_roundw
                  case rel => exact ⟨r, nx, by omega, by go_num, rfl, (by have h1 := HNX.out; rw [HJ.out] at h1; exact h1.no HF.out), HBI.out.trans (HBQ.out.mono HBI.out.size)⟩
                  case measure => simp [intOf] <;> omega
                · have HF : Hid (firstOk ys S r = true) := by rw [Hid, HRR.out, hrd, HST.out]; rfl
                  have HQ2 : Hid (rdB xs cs C S r q = true) := by rw [Hid, HQE.out, hrd]
                  clear hrd
                  rw [HQ2.out]
                  go_wp2_with fail
                  go_roundw
                  case rel => exact ⟨r, (r : Int), by omega, by go_num, rfl, NxI.yes hrR HF.out, HBI.out.trans (HBQ.out.mono HBI.out.size)⟩
                  case measure => simp [intOf] <;> omega
          · have HF : Hid (firstOk ys S r = false) := by rw [Hid, HRR.out, hS]; rfl
            have HST := Lib.hid hS
            clear hS hr
            go_wp2_with fail
            refine HHAS.out.mono ?_
            rw [HST.out]
            rintro e w' ⟨rfl, rfl⟩
            go_wp2_with fail
            go_roundw
            case rel => exact ⟨r, nx, by omega, by go_num, rfl, (by have h1 := HNX.out; rw [HJ.out] at h1; exact h1.no HF.out), HBI.out⟩
            case measure => simp [intOf] <;> omega
        · have HNZ : Hid (NxI ys S R 0 nx) := by
            have h1 := HNX.out
            have : j = 0 := by omega
            rw [this] at h1
            exact h1
          have hjz : (j : Int) - 1 = -1 := by omega
          rw [hjz]
          rcases HNZ.out with ⟨hv, hno⟩ | ⟨m, hv, _, hmR, hm1, hm2⟩
          · have HOF : Hid (ordB R (clo ys) = false) := by
              have hS := HSE.out
              refine HK.out.stuck HSM.out (by have := HYL.out; omega) (fun r hr => ?_)
              rw [← hS]
              exact hno r (Nat.zero_le _) (by have := HYL.out; omega)
            have E3 : Hid (frX R C xs cs = []) := by rw [Hid, HXE.out, HOF.out]; rfl
            subst hv
            clear hno
            go_wp2_with fail
            refine bodyPost_ret (v := .tuple #[.slice none 0 0, .bool false]) (by simp [results, Try.results76, go_sem]) rfl ?_
            exact ⟨none, 0, by rw [E3.out, HOF.out]; rfl, by rw [E3.out]; exact OwnI.nil _ _, HB.out.trans (HBI.out.mono hbs)⟩
          · have ⟨hnx, hok2⟩ : nxt (clo ys) (fset (clo ys) k) = m ∧ OkTo (clo ys) (k+1) := by
              have hS := HSE.out
              exact HK.out.next HSM.out (by have := HYL.out; omega) (by rw [← hS]; exact hm1) (fun i hi => by rw [← hS]; exact hm2 i (Nat.zero_le _) hi)
            have HE : Hid (firsts (clo ys) (k+1) = firsts (clo ys) k ++ [(m : Int)]) := by
              show firsts (clo ys) k ++ [((nxt (clo ys) (fset (clo ys) k) : Nat) : Int)] = _
              rw [hnx]
            have HK2 := Lib.hid hok2
            have hlen1 : (firsts (clo ys) k).length ≤ 1048576 := by rw [firsts_len]; omega
            subst hv
            have hUl := HOI.out.lt
            have hIs := HBI.out.size
            clear hm1 hm2 hnx hok2
            go_wp2_with (at_builtin; refine push_at rfl _ _ rfl (v := .slice av k capv) (z := (m : Int)) rfl HOI.out rfl hlen1 (by omega) ?_)
            intro v5 w5 o5 hg5 hat5
            have b5 := (HB.out.trans (HBI.out.mono hbs)).trans (below_of_grown hg5 (fun c e => by have := (hUl c e).1; omega) (by omega))
            have A5 := (HA.out.below HBI.out).kept hg5 (ne_own (fun c e => by have := (hUl c e).1; omega))
            obtain ⟨a5, c5, e5⟩ := o5.form
            subst e5
            rw [← HE.out, firsts_len] at o5
            rw [show (firsts (clo ys) k ++ [(m : Int)]).length = k + 1 by simp [firsts_len]]
            clear hUl hat5 hg5
            go_wp2_with fail
            go_roundw
            case rel => exact ⟨k + 1, by omega, rfl, o5, HK2.out, b5, A5⟩
            case measure => simp [lenF]; omega
    · have HKE : Hid (k = R) := by show k = R; omega
      have HOT : Hid (ordB R (clo ys) = true) := by
        refine OkTo.ord HRL.out ?_
        have h1 := HK.out
        rw [HKE.out] at h1
        rw [HYL.out]
        exact h1
      have E3 : Hid (frX R C xs cs = firsts (clo ys) k) := by rw [Hid, HXE.out, HOT.out, HKE.out]; rfl
      clear hown hok hb hA
      go_wp2_with fail
      refine bodyPost_ret (v := .tuple #[.slice av k capv, .bool true]) (by simp [results, Try.results76, go_sem]) rfl ?_
      exact ⟨av, capv, by rw [E3.out, HOT.out, firsts_len], by rw [E3.out, firsts_len]; exact HO.out.mono (by omega), HB.out⟩

theorem wpList_append_none {P : Program} {w : World} {ops : Array Oper} {rest : List Oper} {o : Oper} {a : Act} {Q : Exit → Act → World → Prop} (hgd : o.guard = none) (s x : Operand) (t : TypeId)
    (ho : o.op = .call { callee := .builtin .append, args := #[s, x], argTypes := #[t, t] })
    (base : Nat) (e : TypeId) (i : TypeInfo) (size : Nat) (ht : P.underlying t = some (.slice e)) (hi : P.info? e = some i)
    (v : Value) (n c : Nat) (xs : List Value) (hs : a.eval s = v) (hown : w.ownsRow base e size v n xs) (hx : a.eval x = .slice none 0 c)
    (h : wpList P ops Q rest (a.put o.dst v) w) : wpList P ops Q (o :: rest) a w := by
  refine wpList_plain hgd fun K hK => ?_
  have hrun : (Builtin.append_ #[t, t] o.type #[v, .slice none 0 c]).run P w = .ok v w := by
    rcases hown.2 with ⟨rfl, rfl⟩ | ⟨g, cap, cur, rfl, _, _, hnc, _⟩
    · simp [Builtin.append_, run_underlying ht, sizeOf, typeInfo, hi, Builtin.lenOf, Builtin.firstCells]
    · simp [Builtin.append_, run_underlying ht, sizeOf, typeInfo, hi, Builtin.lenOf, Builtin.firstCells, hnc, storeCells]
  unfold Oper.wp
  simp [execOp, ho, resolve, invoke, builtin, hs, hx, hrun, Result.andThen]
  exact hK _ _ h
theorem rd_news {w : World} {ad : Addr} {xs : List Int} (hx : Rd w (some ad) xs) : ∀ j u, (xs.map (Value.int .i64))[j]? = some u → w.cell? (ad.add j) = some u := by
  intro j u hj
  rw [List.getElem?_map, Option.map_eq_some_iff] at hj
  obtain ⟨x, hx1, rfl⟩ := hj
  obtain ⟨hlt, e⟩ := List.getElem?_eq_some_iff.1 hx1
  obtain ⟨b, off, e1, _, hc⟩ := hx.cell j hlt
  simp only [Option.some.injEq] at e1
  subst e1
  rw [Addr.add_lit, hc, nth_get xs j hlt, e]
theorem ints_one (xs : List Int) : ∀ u ∈ xs.map (Value.int .i64), u.oneCell' = true := by
  intro u hu
  obtain ⟨x, _, rfl⟩ := List.mem_map.1 hu
  rfl

theorem l1Own_any (a : Option Addr) (xs : List Int) (cap : Nat) (w : World) (hx : Rd w a xs) (hn : xs.length ≤ 1048576) :
    Calls Try.prog 99 #[.slice a xs.length cap] w fun e w' => ∃ a' cap', e = .returned (.slice a' xs.length cap') ∧ OwnI w' w.heap.size (.slice a' xs.length cap') xs ∧ Below w.heap.size w w' := by
  obtain ⟨i0, hi, hz0, hz1, hz2⟩ := info_parts infoInt
  have hown : (w.alloc (.cells #[] 3)).ownsRow w.heap.size 3 1 (.slice (some ⟨w.heap.size, 0, none⟩) 0 0) 0 [] := World.ownsRow_lit w #[] 0 (Nat.le_refl _) (by simp [maxLen]) (by simp)
  cases a with
  | none =>
    have h0 : xs = [] := by
      rcases xs with _ | ⟨x, t⟩
      · rfl
      · obtain ⟨b, off, e, _⟩ := hx.cell 0 (by simp)
        cases e
    subst h0
    go_enter Try.func99, Try.ntmps99
    go_wp2_with (at_builtin; refine wpList_append_none rfl _ _ 22 rfl w.heap.size 3 i0 1 Try.underlying22 hi _ 0 _ [] rfl hown rfl ?_)
    go_wp2_with fail
    go_ret
    exact ⟨_, _, rfl, hown, (by repeat (first | exact Below.refl _ _ | assumption | refine Below.alloc ?_ (by first | exact Nat.le_refl _ | (simp only [World.size_alloc, World.size_setCell, World.size_drew]; omega) | omega) _ | refine Below.setCell ?_ (by first | exact Nat.le_refl _ | (simp only [World.size_alloc, World.size_setCell, World.size_drew]; omega) | omega) _ | refine Below.drew ?_))⟩
  | some ad =>
    have hx1 := hx.alloc (.cells #[] 3)
    go_enter Try.func99, Try.ntmps99
    go_wp2_with (at_builtin; refine wpList_append_own _ rfl _ _ 22 rfl w.heap.size 3 i0 (.int .i64 0) 1 8 Try.underlying22 hi hz0 hz1 hz2 rfl (by decide) _ 0 [] rfl hown ad xs.length cap (xs.map (Value.int .i64)) rfl (by simp) ?c1 ?c2 ?c3 ?c4 ?c5 ?_)
    case c1 => exact rd_news hx1
    case c2 => exact ints_one xs
    case c3 => unfold maxLen; omega
    case c4 => omega
    case c5 => simp
    · intro v' w1 hown' hgrow _
      try simp only [Nat.zero_add, List.nil_append] at hown'
      have hb : Below w.heap.size w w1 := ((Below.refl _ _).alloc (Nat.le_refl _) _).grown hgrow (by simp) (fun b e => by simp [Value.ownBlock] at e; omega)
      obtain ⟨a', cap', rfl⟩ := OwnI.form (xs := xs) hown'
      have HO := Lib.hid hown'
      clear hown' hgrow hown
      go_wp2_with fail
      go_ret
      exact ⟨a', cap', rfl, HO.out, hb⟩

theorem feB_fep {R C : Nat} {xs cs : List Int} (h : feB R C xs cs = true) : FeP R C xs cs ∧ frO R C xs cs = ordB R (clo (foA R C xs cs)) := by
  obtain ⟨R', C', hR, hC, hp⟩ := feB_p h
  have e1 : R = R' := by omega
  have e2 : C = C' := by omega
  subst e1 e2
  refine ⟨hp, ?_⟩
  rw [frO, h, Bool.true_and, Int.toNat_natCast, Int.toNat_natCast]
set_option maxRecDepth 100000 in
set_option maxHeartbeats 4000000 in
theorem feSplit_any (R C P : Nat) (a : Option Addr) (xs : List Int) (cap : Nat) (ac : Option Addr) (cs : List Int) (cpc : Nat) (B : Nat) (hcs : cs = ecL R C xs) (ht : tabB R C xs = true) (hP : P ≤ 4) (h9 : cs.length ≤ 9) :
    ∀ (d : Nat) (l : List Int) (b : Option Addr) (cap2 : Nat) (w : World), l.length + d = cs.length → B ≤ w.heap.size → Rd w a xs → Rd w ac cs → OwnI w B (.slice b l.length cap2) l →
    Calls Try.prog 82 #[.agg #[.int .i64 (R : Int), .int .i64 (C : Int), .slice a xs.length cap], .slice ac cs.length cpc, .slice b l.length cap2, .int .i64 (P : Int)] w (FsPost w B (fullS (frO R C xs) cs P d l)) := by
  intro d
  induction d with
  | zero =>
    intro l b cap2 w hld hBw hx hy ho
    obtain ⟨fr, hfr⟩ : ∃ fr, fr = frO (R : Int) (C : Int) xs := ⟨_, rfl⟩
    have HFR := Lib.hid hfr
    rw [← hfr]
    clear hfr
    have hb0 : Below w.heap.size w (w.alloc (.cells #[.int .i64 (R : Int), .int .i64 (C : Int), .slice a xs.length cap] 27)) := (by repeat (first | exact Below.refl _ _ | assumption | refine Below.alloc ?_ (by first | exact Nat.le_refl _ | (simp only [World.size_alloc, World.size_setCell, World.size_drew]; omega) | omega) _ | refine Below.setCell ?_ (by first | exact Nat.le_refl _ | (simp only [World.size_alloc, World.size_setCell, World.size_drew]; omega) | omega) _ | refine Below.drew ?_))
    have HA := Lib.hid (Box3.new w (.int .i64 (R : Int)) (.int .i64 (C : Int)) (.slice a xs.length cap) 27)
    have HO := Lib.hid ho
    have hz : ((l.length : Int) == (cs.length : Int)) = true := by simp; omega
    have HFE : Hid (∀ k : Nat, FeP R C xs (selTo cs l (k : Int) l.length) ∧ fr (selTo cs l (k : Int) l.length) = ordB R (clo (foA R C xs (selTo cs l (k : Int) l.length)))) := fun k => by
      have h := feB_fep (sel_feB ht l (k : Int) l.length (by rw [← hcs]; omega))
      rw [← hcs] at h
      rw [HFR.out]
      exact h
    have HSL : Hid (∀ (k : Nat) w', Below w.heap.size w w' → Calls Try.prog 98 #[.slice ac cs.length cpc, .slice b l.length cap2, .int .i64 (k : Int)] w' fun e w'' => ∃ a' cap', e = .returned (.slice a' (selTo cs l (k : Int) l.length).length cap') ∧ OwnI w'' w'.heap.size (.slice a' (selTo cs l (k : Int) l.length).length cap') (selTo cs l (k : Int) l.length) ∧ Below w'.heap.size w' w'') := fun k w' hb => sSel_any ac cs cpc b l cap2 (k : Int) w' (hy.below hb) (ho.rd.below hb) (by omega) (by omega)
    have HX := Lib.hid hx
    have HBW : Hid (B ≤ w.heap.size) := hBw
    clear hx hy ho ht hcs
    go_enter Try.func82, Try.ntmps82
    go_wp2_with fail
    go_loopw [10] (fun i wq => ∃ k : Nat, k ≤ P ∧ i = .int .i64 k ∧ Below w.heap.size w wq ∧ Box3 wq w.heap.size (.int .i64 (R : Int)) (.int .i64 (C : Int)) (.slice a xs.length cap) ∧ goodP fr cs l k = true) (fun i _ => P - (intOf i).toNat)
    case atStart => exact ⟨0, Nat.zero_le _, rfl, hb0, HA.out, rfl⟩
    case round =>
      obtain ⟨k, hk, rfl, hb, hA, hg⟩ := hrel
      have hbs := hb.size
      have HGD := Lib.hid hg
      have HBB := Lib.hid hb
      clear hg
      by_cases hlt : k < P
      · have hkP : (k : Int) < (P : Int) := by omega
        have ⟨hfe, hor⟩ := HFE.out k
        have HS1 := Lib.hid (HSL.out k)
        have HG1 : Hid (goodP fr cs l (k+1) = (goodP fr cs l k && fr (selTo cs l (k : Int) l.length))) := rfl
        obtain ⟨S, hS⟩ : ∃ S, S = selTo cs l (k : Int) l.length := ⟨_, rfl⟩
        rw [← hS] at hfe hor HS1 HG1
        have HFP := Lib.hid hfe
        have HNG : Hid (fr S = false → fullS fr cs P 0 l = none) := fun h => by
          rw [fullS, if_neg]
          intro h2
          rw [goodP_iff] at h2
          have := h2 k hlt
          rw [← hS, h] at this; cases this
        have ⟨zA, cA, dA, eA⟩ := hA
        clear hS hfe
        cases hF : fr S
        · rw [hF] at hor
          have HNO := Lib.hid (HNG.out hF)
          have HOR := Lib.hid hor
          have HAA := Lib.hid hA
          clear hor hA hb
          go_wp2_with fail
          go_region_held3 (fun w' => w'.cell? ⟨w.heap.size, 0, none⟩ = some (.int .i64 (R : Int)) ∧ w'.cell? ⟨w.heap.size, 1, none⟩ = some (.int .i64 (C : Int)) ∧ w'.cell? ⟨w.heap.size, 2, none⟩ = some (.slice a xs.length cap))
            (first | exact ⟨A3.2.1, A3.2.2.1, A3.2.2.2⟩ | exact ⟨A2.2.1, A2.2.2.1, A2.2.2.2⟩ | go_keep)
            (first | (have _g := ht2; go_at_call 76; refine (feOrder_any R C a xs cap _ S _ _ (HX.out.below (HBB.out.trans (ht2.mono hbs))) ho2.rd HFP.out).mono ?_; rw [← HOR.out]; rintro e w3 ⟨a3, c3, rfl, ho3, hb3⟩; have ht3 := ht2.trans (hb3.mono ht2.size); have A3 := A2.below hb3) | (go_at_call 98; refine (HS1.out _ (HBB.out.trans ((Joins.below_draws _ _ _).mono hbs))).mono ?_; rintro e w2 ⟨a2, c2, rfl, ho2, hb2⟩; have ht2 : Below wr.heap.size wr w2 := (Joins.below_draws _ _ _).trans hb2; have A2 := HAA.out.below ht2))
          all_goals
            go_wp2_with fail
            refine bodyPost_ret (v := .tuple #[.slice none 0 0, .bool false]) (by simp [results, Try.results82, go_sem]) rfl ?_
            rw [HNO.out]
            exact ⟨HBB.out.trans (ht3.mono hbs), none, 0, rfl, OwnI.nil _ _⟩
        · rw [hF] at hor
          have HOR := Lib.hid hor
          have HAA := Lib.hid hA
          have HG2 : Hid (goodP fr cs l (k+1) = true) := by rw [Hid, HG1.out, HGD.out, hF]; rfl
          clear hor hA hb
          go_wp2_with fail
          go_region_held3 (fun w' => w'.cell? ⟨w.heap.size, 0, none⟩ = some (.int .i64 (R : Int)) ∧ w'.cell? ⟨w.heap.size, 1, none⟩ = some (.int .i64 (C : Int)) ∧ w'.cell? ⟨w.heap.size, 2, none⟩ = some (.slice a xs.length cap))
            (first | exact ⟨A3.2.1, A3.2.2.1, A3.2.2.2⟩ | exact ⟨A2.2.1, A2.2.2.1, A2.2.2.2⟩ | go_keep)
            (first | (have _g := ht2; go_at_call 76; refine (feOrder_any R C a xs cap _ S _ _ (HX.out.below (HBB.out.trans (ht2.mono hbs))) ho2.rd HFP.out).mono ?_; rw [← HOR.out]; rintro e w3 ⟨a3, c3, rfl, ho3, hb3⟩; have ht3 := ht2.trans (hb3.mono ht2.size); have A3 := A2.below hb3) | (go_at_call 98; refine (HS1.out _ (HBB.out.trans ((Joins.below_draws _ _ _).mono hbs))).mono ?_; rintro e w2 ⟨a2, c2, rfl, ho2, hb2⟩; have ht2 : Below wr.heap.size wr w2 := (Joins.below_draws _ _ _).trans hb2; have A2 := HAA.out.below ht2))
          all_goals
            go_wp2_with fail
            go_roundw
            case rel => exact ⟨k + 1, by omega, by go_num, HBB.out.trans (ht3.mono hbs), A3, HG2.out⟩
            case measure => simp [intOf]; omega
      · have hkE : k = P := by omega
        subst hkE
        have HRES : Hid (fullS fr cs k 0 l = some l) := by rw [Hid, fullS, HGD.out, if_pos rfl]
        clear hA hb
        go_wp2_with fail
        refine bodyPost_ret (v := .tuple #[.slice b l.length cap2, .bool true]) (by simp [results, Try.results82, go_sem]) rfl ?_
        rw [HRES.out]
        exact ⟨HBB.out, b, cap2, rfl, HO.out.below HBB.out (Nat.le_refl _)⟩
  | succ d ih =>
    intro l b cap2 w hld hBw hx hy ho
    obtain ⟨fr, hfr⟩ : ∃ fr, fr = frO (R : Int) (C : Int) xs := ⟨_, rfl⟩
    have HFR := Lib.hid hfr
    rw [← hfr] at ih ⊢
    clear hfr
    have HIH := Lib.hid ih
    have HY := Lib.hid hy
    have HLD := Lib.hid hld
    obtain ⟨i0, hi, hz0, hz1, hz2⟩ := info_parts infoInt
    obtain ⟨G, hG⟩ : ∃ G : Nat → Option (List Int), G = fun k : Nat => fullS fr cs P d (l ++ [(k : Int)]) := ⟨_, rfl⟩
    have HG : Hid (∀ k : Nat, fullS fr cs P d (l ++ [(k : Int)]) = G k) := fun k => by rw [hG]
    have HRES : Hid (goodP fr cs l P = true → fullS fr cs P (d+1) l = find1 G P) := fun h => by rw [fullS, h, if_pos rfl, hG]
    clear ih hG
    have hb0 : Below w.heap.size w (w.alloc (.cells #[.int .i64 (R : Int), .int .i64 (C : Int), .slice a xs.length cap] 27)) := (by repeat (first | exact Below.refl _ _ | assumption | refine Below.alloc ?_ (by first | exact Nat.le_refl _ | (simp only [World.size_alloc, World.size_setCell, World.size_drew]; omega) | omega) _ | refine Below.setCell ?_ (by first | exact Nat.le_refl _ | (simp only [World.size_alloc, World.size_setCell, World.size_drew]; omega) | omega) _ | refine Below.drew ?_))
    have HA := Lib.hid (Box3.new w (.int .i64 (R : Int)) (.int .i64 (C : Int)) (.slice a xs.length cap) 27)
    have HO := Lib.hid ho
    have hz : ((l.length : Int) == (cs.length : Int)) = false := by simp; omega
    have HFE : Hid (∀ k : Nat, FeP R C xs (selTo cs l (k : Int) l.length) ∧ fr (selTo cs l (k : Int) l.length) = ordB R (clo (foA R C xs (selTo cs l (k : Int) l.length)))) := fun k => by
      have h := feB_fep (sel_feB ht l (k : Int) l.length (by rw [← hcs]; omega))
      rw [← hcs] at h
      rw [HFR.out]
      exact h
    have HSL : Hid (∀ (k : Nat) w', Below w.heap.size w w' → Calls Try.prog 98 #[.slice ac cs.length cpc, .slice b l.length cap2, .int .i64 (k : Int)] w' fun e w'' => ∃ a' cap', e = .returned (.slice a' (selTo cs l (k : Int) l.length).length cap') ∧ OwnI w'' w'.heap.size (.slice a' (selTo cs l (k : Int) l.length).length cap') (selTo cs l (k : Int) l.length) ∧ Below w'.heap.size w' w'') := fun k w' hb => sSel_any ac cs cpc b l cap2 (k : Int) w' (hy.below hb) (ho.rd.below hb) (by omega) (by omega)
    have HX := Lib.hid hx
    have HBW : Hid (B ≤ w.heap.size) := hBw
    clear hx hy ho ht hcs
    go_enter Try.func82, Try.ntmps82
    go_wp2_with fail
    go_loopw [10] (fun i wq => ∃ k : Nat, k ≤ P ∧ i = .int .i64 k ∧ Below w.heap.size w wq ∧ Box3 wq w.heap.size (.int .i64 (R : Int)) (.int .i64 (C : Int)) (.slice a xs.length cap) ∧ goodP fr cs l k = true) (fun i _ => P - (intOf i).toNat)
    case atStart => exact ⟨0, Nat.zero_le _, rfl, hb0, HA.out, rfl⟩
    case round =>
      obtain ⟨k, hk, rfl, hb, hA, hg⟩ := hrel
      have hbs := hb.size
      have HGD := Lib.hid hg
      have HBB := Lib.hid hb
      clear hg
      by_cases hlt : k < P
      · have hkP : (k : Int) < (P : Int) := by omega
        have ⟨hfe, hor⟩ := HFE.out k
        have HS1 := Lib.hid (HSL.out k)
        have HG1 : Hid (goodP fr cs l (k+1) = (goodP fr cs l k && fr (selTo cs l (k : Int) l.length))) := rfl
        obtain ⟨S, hS⟩ : ∃ S, S = selTo cs l (k : Int) l.length := ⟨_, rfl⟩
        rw [← hS] at hfe hor HS1 HG1
        have HFP := Lib.hid hfe
        have HNG : Hid (fr S = false → fullS fr cs P (d+1) l = none) := fun h => by
          rw [fullS, if_neg]
          intro h2
          rw [goodP_iff] at h2
          have := h2 k hlt
          rw [← hS, h] at this; cases this
        have ⟨zA, cA, dA, eA⟩ := hA
        clear hS hfe
        cases hF : fr S
        · rw [hF] at hor
          have HNO := Lib.hid (HNG.out hF)
          have HOR := Lib.hid hor
          have HAA := Lib.hid hA
          clear hor hA hb
          go_wp2_with fail
          go_region_held3 (fun w' => w'.cell? ⟨w.heap.size, 0, none⟩ = some (.int .i64 (R : Int)) ∧ w'.cell? ⟨w.heap.size, 1, none⟩ = some (.int .i64 (C : Int)) ∧ w'.cell? ⟨w.heap.size, 2, none⟩ = some (.slice a xs.length cap))
            (first | exact ⟨A3.2.1, A3.2.2.1, A3.2.2.2⟩ | exact ⟨A2.2.1, A2.2.2.1, A2.2.2.2⟩ | go_keep)
            (first | (have _g := ht2; go_at_call 76; refine (feOrder_any R C a xs cap _ S _ _ (HX.out.below (HBB.out.trans (ht2.mono hbs))) ho2.rd HFP.out).mono ?_; rw [← HOR.out]; rintro e w3 ⟨a3, c3, rfl, ho3, hb3⟩; have ht3 := ht2.trans (hb3.mono ht2.size); have A3 := A2.below hb3) | (go_at_call 98; refine (HS1.out _ (HBB.out.trans ((Joins.below_draws _ _ _).mono hbs))).mono ?_; rintro e w2 ⟨a2, c2, rfl, ho2, hb2⟩; have ht2 : Below wr.heap.size wr w2 := (Joins.below_draws _ _ _).trans hb2; have A2 := HAA.out.below ht2))
          all_goals
            go_wp2_with fail
            refine bodyPost_ret (v := .tuple #[.slice none 0 0, .bool false]) (by simp [results, Try.results82, go_sem]) rfl ?_
            rw [HNO.out]
            exact ⟨HBB.out.trans (ht3.mono hbs), none, 0, rfl, OwnI.nil _ _⟩
        · rw [hF] at hor
          have HOR := Lib.hid hor
          have HAA := Lib.hid hA
          have HG2 : Hid (goodP fr cs l (k+1) = true) := by rw [Hid, HG1.out, HGD.out, hF]; rfl
          clear hor hA hb
          go_wp2_with fail
          go_region_held3 (fun w' => w'.cell? ⟨w.heap.size, 0, none⟩ = some (.int .i64 (R : Int)) ∧ w'.cell? ⟨w.heap.size, 1, none⟩ = some (.int .i64 (C : Int)) ∧ w'.cell? ⟨w.heap.size, 2, none⟩ = some (.slice a xs.length cap))
            (first | exact ⟨A3.2.1, A3.2.2.1, A3.2.2.2⟩ | exact ⟨A2.2.1, A2.2.2.1, A2.2.2.2⟩ | go_keep)
            (first | (have _g := ht2; go_at_call 76; refine (feOrder_any R C a xs cap _ S _ _ (HX.out.below (HBB.out.trans (ht2.mono hbs))) ho2.rd HFP.out).mono ?_; rw [← HOR.out]; rintro e w3 ⟨a3, c3, rfl, ho3, hb3⟩; have ht3 := ht2.trans (hb3.mono ht2.size); have A3 := A2.below hb3) | (go_at_call 98; refine (HS1.out _ (HBB.out.trans ((Joins.below_draws _ _ _).mono hbs))).mono ?_; rintro e w2 ⟨a2, c2, rfl, ho2, hb2⟩; have ht2 : Below wr.heap.size wr w2 := (Joins.below_draws _ _ _).trans hb2; have A2 := HAA.out.below ht2))
          all_goals
            go_wp2_with fail
            go_roundw
            case rel => exact ⟨k + 1, by omega, by go_num, HBB.out.trans (ht3.mono hbs), A3, HG2.out⟩
            case measure => simp [intOf]; omega
      · have hkE : k = P := by omega
        have hkP : ¬ (k : Int) < (P : Int) := by omega
        have HAA := Lib.hid hA
        rw [hkE] at HGD
        have HR2 := Lib.hid (HRES.out HGD.out)
        have hl9 : l.length ≤ 9 := by omega
        clear hA hb hkE hk hlt
        go_wp2_with fail
        go_loopw [13] (fun i wq => ∃ k2 : Nat, k2 ≤ P ∧ i = .int .i64 k2 ∧ Below w.heap.size w wq ∧ Box3 wq w.heap.size (.int .i64 (R : Int)) (.int .i64 (C : Int)) (.slice a xs.length cap) ∧ (∀ j, j < k2 → G j = none)) (fun i _ => P - (intOf i).toNat)
        case atStart => exact ⟨0, Nat.zero_le _, rfl, HBB.out, HAA.out, fun j hj => by omega⟩
        case round =>
          clear HAA hkP HBB hbs
          obtain ⟨k2, hk2, rfl, hb, hA, hno⟩ := hrel
          have hbs := hb.size
          have HBB := Lib.hid hb
          have HAA := Lib.hid hA
          have HNO := Lib.hid hno
          clear hno
          by_cases hlt : k2 < P
          · have hkP : (k2 : Int) < (P : Int) := by omega
            have HIH2 : Hid (∀ b' cap2' w', B ≤ w'.heap.size → Below w.heap.size w w' → OwnI w' B (.slice b' (l.length + 1) cap2') (l ++ [(k2 : Int)]) → Calls Try.prog 82 #[.agg #[.int .i64 (R : Int), .int .i64 (C : Int), .slice a xs.length cap], .slice ac cs.length cpc, .slice b' (l.length + 1) cap2', .int .i64 (P : Int)] w' (FsPost w' B (G k2))) := fun b' cap2' w' h1 h2 h3 => by
              have h := HIH.out (l ++ [(k2 : Int)]) b' cap2' w' (by have := HLD.out; simp; omega) h1 (HX.out.below h2) (HY.out.below h2)
              rw [HG.out k2, List.length_append, List.length_singleton] at h
              exact h h3
            have hoq := Lib.hid (HO.out.rd.below hb)
            have ⟨zA, cA, dA, eA⟩ := hA
            clear hA hb
            cases hr : G k2 with
            | none =>
              rw [hr] at HIH2
              have HRR := Lib.hid hr
              clear hr
              go_wp2_with fail
              go_region_law (first
                | (have _g := ho5; go_simp; go_at_call 82; refine (HIH2.out _ _ _ (by have := HBW.out; have := b5.size; simp; omega) (by first | exact HBB.out.trans (b5.mono hbs) | exact (HBB.out.trans (b5.mono hbs)).drew) (by first | exact o5 | exact o5.below (Below.refl _ _).drew (Nat.le_refl _))).mono ?_; rintro e w6 ⟨hb6, a6, c6, rfl, ho6⟩)
                | (have _g := NW; refine step_push (by rfl) _ _ (by rfl) (by rfl) (by rfl) (by first | exact ho3 | exact ho3.below (Joins.below_draws _ _ _) (Nat.le_refl _)) (by rfl) (by exact NW) (by omega) (by exact ht3.size) ?_; intro g5 c5 w5 ho5 hg5 hat5; have b5 : Below wr.heap.size wr w5 := ht3.trans (below_of_grown hg5 (fun c e => (ho3.lt c e).1) ht3.size); have o5 := ho5.mono (B' := B) (by have := HBW.out; omega); have ⟨zA5, cA5, dA5, eA5⟩ := HAA.out.below b5)
                | (have _g := ho3; refine step_push (by rfl) _ _ (by rfl) (by rfl) (by rfl) (by exact ho3.alloc _) (by rfl) (by simp; rfl) (by omega) (by have := ht3.size; simp; omega) ?_; intro g5 c5 w5 ho5 hg5 hat5; have b5 : Below wr.heap.size wr w5 := ht3.trans (below_of_grown (grown_alloc_set hg5) (fun c e => (ho3.lt c e).1) ht3.size); have o5 := ho5.mono (B' := B) (by have := HBW.out; omega); have ⟨zA5, cA5, dA5, eA5⟩ := HAA.out.below b5)
                | (go_simp; go_at_call 99; refine (l1Own_any _ l _ _ (by first | exact hoq.out.below (Joins.below_draws _ _ _) | exact (hoq.out.below (Joins.below_draws _ _ _)).alloc _) (by omega)).mono ?_; rintro e w3 ⟨a3, c3, rfl, ho3', hb3⟩; have ht3 : Below wr.heap.size wr w3 := (by first | exact below_drew hb3 | exact below_after hb3); have ho3 := ho3'.mono (B' := wr.heap.size) (by simp); have ⟨zA3, cA3, dA3, eA3⟩ := HAA.out.below ht3; (try have NW := news_after hb3); clear ho3' hb3))
              all_goals
                have ht6 : Below wr.heap.size wr w6 := b5.trans ((by first | exact below_drew hb6 | exact hb6 : Below w5.heap.size w5 w6).mono b5.size)
                go_wp2_with fail
                go_roundw
                case rel =>
                  refine ⟨k2 + 1, by omega, by go_num, HBB.out.trans (ht6.mono hbs), HAA.out.below ht6, fun j hj => ?_⟩
                  by_cases e : j = k2
                  · rw [e]; exact HRR.out
                  · exact HNO.out j (by omega)
                case measure => simp [intOf]; omega
            | some ys =>
              rw [hr] at HIH2
              have HRR : Hid (fullS fr cs P (d+1) l = some ys) := by rw [Hid, HR2.out]; exact find1_some hlt hr HNO.out
              clear hr
              go_wp2_with fail
              go_region_law (first
                | (have _g := ho5; go_simp; go_at_call 82; refine (HIH2.out _ _ _ (by have := HBW.out; have := b5.size; simp; omega) (by first | exact HBB.out.trans (b5.mono hbs) | exact (HBB.out.trans (b5.mono hbs)).drew) (by first | exact o5 | exact o5.below (Below.refl _ _).drew (Nat.le_refl _))).mono ?_; rintro e w6 ⟨hb6, a6, c6, rfl, ho6⟩)
                | (have _g := NW; refine step_push (by rfl) _ _ (by rfl) (by rfl) (by rfl) (by first | exact ho3 | exact ho3.below (Joins.below_draws _ _ _) (Nat.le_refl _)) (by rfl) (by exact NW) (by omega) (by exact ht3.size) ?_; intro g5 c5 w5 ho5 hg5 hat5; have b5 : Below wr.heap.size wr w5 := ht3.trans (below_of_grown hg5 (fun c e => (ho3.lt c e).1) ht3.size); have o5 := ho5.mono (B' := B) (by have := HBW.out; omega); have ⟨zA5, cA5, dA5, eA5⟩ := HAA.out.below b5)
                | (have _g := ho3; refine step_push (by rfl) _ _ (by rfl) (by rfl) (by rfl) (by exact ho3.alloc _) (by rfl) (by simp; rfl) (by omega) (by have := ht3.size; simp; omega) ?_; intro g5 c5 w5 ho5 hg5 hat5; have b5 : Below wr.heap.size wr w5 := ht3.trans (below_of_grown (grown_alloc_set hg5) (fun c e => (ho3.lt c e).1) ht3.size); have o5 := ho5.mono (B' := B) (by have := HBW.out; omega); have ⟨zA5, cA5, dA5, eA5⟩ := HAA.out.below b5)
                | (go_simp; go_at_call 99; refine (l1Own_any _ l _ _ (by first | exact hoq.out.below (Joins.below_draws _ _ _) | exact (hoq.out.below (Joins.below_draws _ _ _)).alloc _) (by omega)).mono ?_; rintro e w3 ⟨a3, c3, rfl, ho3', hb3⟩; have ht3 : Below wr.heap.size wr w3 := (by first | exact below_drew hb3 | exact below_after hb3); have ho3 := ho3'.mono (B' := wr.heap.size) (by simp); have ⟨zA3, cA3, dA3, eA3⟩ := HAA.out.below ht3; (try have NW := news_after hb3); clear ho3' hb3))
              all_goals
                have ht6 : Below wr.heap.size wr w6 := b5.trans ((by first | exact below_drew hb6 | exact hb6 : Below w5.heap.size w5 w6).mono b5.size)
                go_wp2_with fail
                refine bodyPost_ret (v := .tuple #[.slice a6 ys.length c6, .bool true]) (by simp [results, Try.results82, go_sem]) rfl ?_
                rw [HRR.out]
                exact ⟨HBB.out.trans (ht6.mono hbs), a6, c6, rfl, ho6⟩
          · have hkE : k2 = P := by omega
            have hkP : ¬ (k2 : Int) < (P : Int) := by omega
            have HRR : Hid (fullS fr cs P (d+1) l = none) := by rw [Hid, HR2.out]; exact find1_none (fun j hj => HNO.out j (by omega))
            clear hA hb hkE
            go_wp2_with fail
            refine bodyPost_ret (v := .tuple #[.slice none 0 0, .bool false]) (by simp [results, Try.results82, go_sem]) rfl ?_
            rw [HRR.out]
            exact ⟨HBB.out, none, 0, rfl, OwnI.nil _ _⟩

set_option maxRecDepth 100000 in
theorem feEmpty_any (R C : Nat) (a : Option Addr) (xs : List Int) (cap : Nat) (w : World) (hx : Rd w a xs) (hp : TabP R C xs) :
    Calls Try.prog 74 #[.agg #[.int .i64 (R : Int), .int .i64 (C : Int), .slice a xs.length cap]] w fun e w' => ∃ a' cap', e = .returned (.slice a' (ecTo xs C (R * C)).length cap') ∧ OwnI w' w.heap.size (.slice a' (ecTo xs C (R * C)).length cap') (ecTo xs C (R * C)) ∧ Below w.heap.size w w' := by
  have r1 : R ≤ 6 := by have := hp.r1; omega
  have c1 : C ≤ 6 := by have := hp.c1; omega
  have c0 : 1 ≤ C := by have := hp.c0; omega
  have hl : xs.length = R := by have := hp.len; omega
  have hl6 : xs.length ≤ 6 := by omega
  have HL := Lib.hid hl
  have HP := Lib.hid hp
  have A0 := Box3.new w (.int .i64 (R : Int)) (.int .i64 (C : Int)) (.slice a xs.length cap) 27
  have b0 : Below w.heap.size w (w.alloc (.cells #[.int .i64 (R : Int), .int .i64 (C : Int), .slice a xs.length cap] 27)) := (by repeat (first | exact Below.refl _ _ | assumption | refine Below.alloc ?_ (by first | exact Nat.le_refl _ | (simp only [World.size_alloc, World.size_setCell, World.size_drew]; omega) | omega) _ | refine Below.setCell ?_ (by first | exact Nat.le_refl _ | (simp only [World.size_alloc, World.size_setCell, World.size_drew]; omega) | omega) _ | refine Below.drew ?_))
  have H0 := Lib.hid (And.intro A0 b0)
  have HX := Lib.hid hx
  have HC36 : Hid (∀ k, k ≤ xs.length → k * C ≤ 36) := fun k hk => Nat.mul_le_mul (show k ≤ 6 by omega) c1
  clear hp hl A0 b0 hx
  go_enter Try.func74, Try.ntmps74
  go_wp2_with fail
  go_loopw [3, 10] (fun v i wr => ∃ k : Nat, k ≤ xs.length ∧ i = .int .i64 k ∧ OwnI wr (w.heap.size + 1) v (ecTo xs C (k * C)) ∧ Box3 wr w.heap.size (.int .i64 (R : Int)) (.int .i64 (C : Int)) (.slice a xs.length cap) ∧ Below w.heap.size w wr) (fun _ i _ => xs.length - (intOf i).toNat)
  case atStart => exact ⟨0, Nat.zero_le _, rfl, by rw [Nat.zero_mul]; exact OwnI.nil _ _, H0.out.1, H0.out.2⟩
  case round =>
    obtain ⟨k, hk, rfl, hown, hA, hb⟩ := hrel
    have HO := Lib.hid hown
    have HA := Lib.hid hA
    have HB := Lib.hid hb
    have hbs := hb.size
    by_cases hlt : k < xs.length
    · obtain ⟨b1, off1, rfl, hbl1, hc1⟩ := (HX.out.below hb).cell k hlt
      have p0 := HP.out.pos k hlt
      have p1 : nth xs k ≤ 9223372036854775807 := by have := HP.out.small k hlt; omega
      have hkC := HC36.out k hk
      have hmul : wrap64 ((k : Int) * (C : Int)) = ((k * C : Nat) : Int) := by
        rw [← Int.natCast_mul]; exact IntWalk.wrap64_in _ ⟨by omega, by omega⟩
      have hA1 := hA.1
      obtain ⟨W1, hW1⟩ : ∃ x : World, x = wr := ⟨_, rfl⟩
      subst hW1
      obtain ⟨M, hM⟩ : ∃ M, M = k * C := ⟨_, rfl⟩
      have HMM := Lib.hid hM
      rw [← hM] at hmul hkC HO
      clear hown hA hb hM
      go_wp2_with fail
      go_loopw [3, 6] (fun v i wq => ∃ q : Nat, q ≤ C ∧ i = .int .i64 q ∧ OwnI wq (w.heap.size + 1) v (ecTo xs C (M + q)) ∧ Box3 wq w.heap.size (.int .i64 (R : Int)) (.int .i64 (C : Int)) (.slice (some ⟨b1, off1, none⟩) xs.length cap) ∧ Below w.heap.size w wq) (fun _ i _ => C - (intOf i).toNat)
      case atStart => exact ⟨0, Nat.zero_le _, rfl, HO.out, HA.out, HB.out⟩
      case round =>
        obtain ⟨q, hq, rfl, hown, hA, hb⟩ := hrel
        have HO2 := Lib.hid hown
        have HA2 := Lib.hid hA
        have HB2 := Lib.hid hb
        have ⟨zA, cA, dA, eA⟩ := hA
        have hbs2 := hb.size
        by_cases hlt2 : q < C
        · have q0 : (0 : Int) ≤ (q : Int) := by omega
          have q1 : (q : Int) < (C : Int) := by omega
          have HE : Hid (ecTo xs C (M + q + 1) = if hasB (nth xs k) (q : Int) then ecTo xs C (M + q) else ecTo xs C (M + q) ++ [((M + q : Nat) : Int)]) := by
            rw [Hid, HMM.out]; exact ecTo_at xs hlt2
          have hlen : (ecTo xs C (M + q)).length ≤ 1048576 := by have := ecTo_len xs C (M + q); omega
          have hadd : wrap64 (((M : Nat) : Int) + (q : Int)) = ((M + q : Nat) : Int) := IntWalk.wrap64_in _ ⟨by omega, by omega⟩
          have HADD := Lib.hid hadd
          clear hown hA hb hadd
          cases hin : hasB (nth xs k) (q : Int)
          · have HE2 : Hid (ecTo xs C (M + q + 1) = ecTo xs C (M + q) ++ [((M + q : Nat) : Int)]) := by rw [Hid, HE.out, hin]; rfl
            have HH := Lib.hid hin
            clear hin
            go_wp2_with fail
            refine (orHas_any _ _ _ p0 p1 q0).mono ?_
            rw [HH.out]
            rintro e w' ⟨rfl, rfl⟩
            go_wp2_with (at_builtin; refine push_at rfl _ _ rfl (z := ((M + q : Nat) : Int)) rfl HO2.out rfl hlen (by omega) ?_)
            intro v5 w5 o5 hg5 hat5
            have hUl := HO2.out.lt
            have b5 := HB2.out.trans (below_of_grown hg5 (fun c e => by have := (hUl c e).1; omega) (by omega))
            have A5 := HA2.out.kept hg5 (ne_own (fun c e => by have := (hUl c e).1; omega))
            clear hUl hat5 hg5
            go_wp2_with fail
            go_roundw
            case rel => exact ⟨q + 1, by omega, by go_num, by rw [← Nat.add_assoc, HE2.out]; exact o5, A5, b5⟩
            case measure => simp [intOf]; omega
          · have HE2 : Hid (ecTo xs C (M + q + 1) = ecTo xs C (M + q)) := by rw [Hid, HE.out, hin]; rfl
            have HH := Lib.hid hin
            clear hin
            go_wp2_with fail
            refine (orHas_any _ _ _ p0 p1 q0).mono ?_
            rw [HH.out]
            rintro e w' ⟨rfl, rfl⟩
            go_wp2_with fail
            go_roundw
            case rel => exact ⟨q + 1, by omega, by go_num, by rw [← Nat.add_assoc, HE2.out]; exact HO2.out, HA2.out, HB2.out⟩
            case measure => simp [intOf]; omega
        · obtain rfl : q = C := by omega
          have HS : Hid (M + q = (k + 1) * q) := by
            rw [Hid, HMM.out, Nat.add_mul, Nat.one_mul]
          clear hown hA hb
          go_wp2_with fail
          go_roundw
          case rel => exact ⟨k + 1, by omega, by go_num, by rw [← HS.out]; exact HO2.out, HA2.out, HB2.out⟩
          case measure => simp [intOf]; omega
    · obtain rfl : k = xs.length := by omega
      have HS : Hid (xs.length * C = R * C) := by rw [Hid, HL.out]
      rw [HS.out] at hown
      obtain ⟨av, cv, ev⟩ := hown.form
      subst ev
      have HO2 := Lib.hid hown
      clear hown hA hb
      go_wp2_with fail
      refine bodyPost_ret (v := .slice av (ecTo xs C (R * C)).length cv) (by simp [results, Try.results74, go_sem]) rfl ?_
      exact ⟨av, cv, rfl, HO2.out.mono (by omega), HB.out⟩

theorem l1In_any (n lo hi : Int) (w : World) :
    Calls Try.prog 68 #[.int .i64 n, .int .i64 lo, .int .i64 hi] w fun e w' => e = .returned (.bool (inB n lo hi)) ∧ w = w' := by
  go_enter Try.func68, Try.ntmps68
  go_wp2
  all_goals (go_ret; exact ⟨ret_bool (by simp [inB]; try omega), rfl⟩)
theorem l1In_is {n lo hi : Int} {b : Bool} (h : inB n lo hi = b) (w : World) (m : Nat) :
    Calls Try.prog 68 #[.int .i64 n, .int .i64 lo, .int .i64 hi] (w.drewN m) fun e w' => e = .returned (.bool b) ∧ ∃ k, w' = w.drewN k :=
  Calls.quiet_of_same ((l1In_any n lo hi (w.drewN m)).mono (fun e w' hh => ⟨by rw [← h]; exact hh.1, hh.2.symm⟩))

theorem l1All_any (a : Option Addr) (xs : List Int) (cap : Nat) (lo hi : Int) (w : World) (hx : Rd w a xs) :
    Calls Try.prog 88 #[.slice a xs.length cap, .int .i64 lo, .int .i64 hi] w fun e w' => e = .returned (.bool (allB xs lo hi)) ∧ w = w' := by
  have hlen := hx.len
  go_enter Try.func88, Try.ntmps88
  go_wp2_with fail
  go_loop [11] (fun i => ∃ k : Nat, k ≤ xs.length ∧ i = .int .i64 k ∧ allB (xs.take k) lo hi = true) (fun i => xs.length - (intOf i).toNat)
  case atStart => exact ⟨0, Nat.zero_le _, rfl, rfl⟩
  case round =>
    obtain ⟨k, hk, rfl, hall⟩ := hrel
    by_cases hlt : k < xs.length
    · obtain ⟨b, off, rfl, hbl, hc⟩ := hx.cell k hlt
      cases hin : inB (nth xs k) lo hi
      · have hf := Lib.hid (allB_false hlt hin)
        go_wp2_with (go_at_call 68; refine (l1In_any _ _ _ _).mono ?_; rintro e w' ⟨rfl, rfl⟩)
        go_ret
        exact ⟨ret_bool hf.out.symm, rfl⟩
      · go_wp2_with (go_at_call 68; refine (l1In_any _ _ _ _).mono ?_; rintro e w' ⟨rfl, rfl⟩)
        go_round
        case rel => exact ⟨k + 1, by omega, by go_num, by rw [allB_take _ _ _ _ hlt, hall, hin]; rfl⟩
        case measure => simp [intOf]; omega
    · go_wp2_with fail
      go_ret
      exact ⟨ret_bool (by rw [← hall, List.take_of_length_le (by omega)]), rfl⟩
theorem l1All_is {a : Option Addr} {xs : List Int} {cap : Nat} {lo hi : Int} {b : Bool} {w : World} (hx : Rd w a xs) (h : allB xs lo hi = b) (m : Nat) :
    Calls Try.prog 88 #[.slice a xs.length cap, .int .i64 lo, .int .i64 hi] (w.drewN m) fun e w' => e = .returned (.bool b) ∧ ∃ k, w' = w.drewN k :=
  Calls.quiet_of_same ((l1All_any a xs cap lo hi (w.drewN m) (hx.below (Joins.below_draws _ _ _))).mono (fun e w' hh => ⟨by rw [← h]; exact hh.1, hh.2.symm⟩))

theorem pow6_eq {n : Int} (h0 : 0 ≤ n) (h1 : n ≤ 10) : wrap64 (wrap64 (2 ^ n.toNat) - 1) = 2 ^ n.toNat - 1 := full_eq h0 h1
theorem feGood_any (n m : Int) (a : Option Addr) (xs : List Int) (cap : Nat) (w : World) (hx : Rd w a xs) :
    Calls Try.prog 53 #[.agg #[.int .i64 n, .int .i64 m, .slice a xs.length cap]] w fun e w' => e = .returned (.bool (tabB n m xs)) ∧ Below w.heap.size w w' := by
  have hx1 := hx.alloc (.cells #[.int .i64 n, .int .i64 m, .slice a xs.length cap] 27)
  cases h1 : inB n 1 6
  · have HR : Hid (tabB n m xs = false) := by simp [Hid, tabB, h1]
    go_enter Try.func53, Try.ntmps53
    go_wp2_with fail
    go_quiet ((go_at_call 68; exact l1In_is h1 _ _))
    go_wp2_with fail
    go_ret
    exact ⟨ret_bool HR.out.symm, (Below.refl _ _).alloc (Nat.le_refl _) _ |>.trans (Joins.below_draws _ _ _)⟩
  · cases h0 : inB m 1 6
    · have HR : Hid (tabB n m xs = false) := by simp [Hid, tabB, h0]
      go_enter Try.func53, Try.ntmps53
      go_wp2_with fail
      go_quiet ((first | (go_at_call 68; with_reducible exact l1In_is h1 _ _) | (go_at_call 68; with_reducible exact l1In_is h0 _ _)))
      go_wp2_with fail
      go_ret
      exact ⟨ret_bool HR.out.symm, (Below.refl _ _).alloc (Nat.le_refl _) _ |>.trans (Joins.below_draws _ _ _)⟩
    · have hq := inB_iff.1 h0
      have m0 : 0 ≤ m := by omega
      cases h2 : ((xs.length : Int) == n)
      · have HR : Hid (tabB n m xs = false) := by
          have : ¬ (xs.length : Int) = n := by simpa using h2
          simp [Hid, tabB, this]
        go_enter Try.func53, Try.ntmps53
        go_wp2_with fail
        go_quiet ((first | (go_at_call 68; with_reducible exact l1In_is h1 _ _) | (go_at_call 68; with_reducible exact l1In_is h0 _ _)))
        go_wp2_with fail
        go_ret
        exact ⟨ret_bool HR.out.symm, (Below.refl _ _).alloc (Nat.le_refl _) _ |>.trans (Joins.below_draws _ _ _)⟩
      · cases h3 : allB xs 0 (wrap64 (wrap64 (2 ^ m.toNat) - 1))
        all_goals
          have HR : Hid (tabB n m xs = allB xs 0 (wrap64 (wrap64 (2 ^ m.toNat) - 1))) := by
            have : (xs.length : Int) = n := by simpa using h2
            simp only [Hid, tabB, h1, h0, this, full_eq m0 (show m ≤ 10 by omega)]
            simp
          have H3 := Lib.hid h3
          clear h3
          go_enter Try.func53, Try.ntmps53
          go_wp2_with fail
          go_quiet ((first | (go_at_call 68; with_reducible exact l1In_is h1 _ _) | (go_at_call 68; with_reducible exact l1In_is h0 _ _) | (go_at_call 88; exact l1All_is hx1 H3.out _)))
          go_wp2_with fail
          go_ret
          exact ⟨ret_bool (by rw [HR.out, H3.out]), (Below.refl _ _).alloc (Nat.le_refl _) _ |>.trans (Joins.below_draws _ _ _)⟩

set_option maxRecDepth 100000 in
theorem feFew_any (n m : Int) (a : Option Addr) (xs : List Int) (cap : Nat) (w : World) (hx : Rd w a xs) :
    Calls Try.prog 81 #[.agg #[.int .i64 n, .int .i64 m, .slice a xs.length cap]] w fun e w' => e = .returned (.bool (tabB n m xs && decide ((ecL n m xs).length ≤ 9))) ∧ Below w.heap.size w w' := by
  have hb0 : Below w.heap.size w (w.alloc (.cells #[.int .i64 n, .int .i64 m, .slice a xs.length cap] 27)) := (by repeat (first | exact Below.refl _ _ | assumption | refine Below.alloc ?_ (by first | exact Nat.le_refl _ | (simp only [World.size_alloc, World.size_setCell, World.size_drew]; omega) | omega) _ | refine Below.setCell ?_ (by first | exact Nat.le_refl _ | (simp only [World.size_alloc, World.size_setCell, World.size_drew]; omega) | omega) _ | refine Below.drew ?_))
  cases hr : tabB n m xs
  · have HM := Lib.hid hr
    clear hr
    rw [Bool.false_and]
    go_enter Try.func81, Try.ntmps81
    go_wp2_with fail
    refine (feGood_any _ _ _ _ _ _ (hx.below hb0)).mono ?_
    rw [HM.out]
    rintro e w1 ⟨rfl, hb⟩
    have b1 : Below w.heap.size w w1 := hb0.trans (hb.mono (by simp))
    go_wp2_with fail
    go_ret
    exact ⟨rfl, b1⟩
  · have hp := tabB_p hr
    obtain ⟨R, hR⟩ := Int.eq_ofNat_of_zero_le (show 0 ≤ n by have := hp.r0; omega)
    obtain ⟨C, hC⟩ := Int.eq_ofNat_of_zero_le (show 0 ≤ m by have := hp.c0; omega)
    subst hR hC
    have H1 : Hid (ecL R C xs = ecTo xs C (R * C)) := by simp [Hid, ecL, hr]
    have HM := Lib.hid hr
    have HP := Lib.hid hp
    clear hr hp
    rw [Bool.true_and, H1.out]
    rcases Nat.lt_or_ge 9 (ecTo xs C (R * C)).length with h9 | h9
    all_goals
      first
        | (have h9i : ¬ ((ecTo xs C (R * C)).length : Int) ≤ 9 := by omega
           have HD : Hid (decide ((ecTo xs C (R * C)).length ≤ 9) = false) := by simp [Hid]; omega
           rw [HD.out])
        | (have h9i : ((ecTo xs C (R * C)).length : Int) ≤ 9 := by omega
           have HD : Hid (decide ((ecTo xs C (R * C)).length ≤ 9) = true) := by simp [Hid]; omega
           rw [HD.out])
      go_enter Try.func81, Try.ntmps81
      go_wp2_with fail
      refine (feGood_any _ _ _ _ _ _ (hx.below hb0)).mono ?_
      rw [HM.out]
      rintro e w1 ⟨rfl, hb⟩
      have b1 : Below w.heap.size w w1 := hb0.trans (hb.mono (by simp))
      have ⟨zA, cA, dA, eA⟩ := (Box3.new w (.int .i64 (R : Int)) (.int .i64 (C : Int)) (.slice a xs.length cap) 27).below hb
      have b1s := b1.size
      clear hb hb0
      go_wp2_with fail
      refine (feEmpty_any R C _ _ _ _ (hx.below b1) HP.out).mono ?_
      rintro e w2 ⟨a2, c2, rfl, ho2, hb2⟩
      have b2 := b1.trans (hb2.mono b1s)
      clear hb2
      go_wp2_with fail
      go_ret
      first
        | exact ⟨rfl, b2⟩
        | exact ⟨ret_bool (by simp; omega), b2⟩
        | exact ⟨ret_bool (by symm; simp; omega), b2⟩

set_option maxRecDepth 100000 in
theorem sSplit_any (n m : Int) (a : Option Addr) (xs : List Int) (cap : Nat) (p : Int) (w : World) (hn : -9223372036854775808 ≤ n ∧ n ≤ 9223372036854775807) (hm : -9223372036854775808 ≤ m ∧ m ≤ 9223372036854775807) (hx : Rd w a xs) (_hp : -9223372036854775808 ≤ p ∧ p ≤ 9223372036854775807) :
    Calls Try.prog 48 #[.agg #[.int .i64 n, .int .i64 m, .slice a xs.length cap], .int .i64 p] w fun e w' => ∃ a' cap', e = .returned (.tuple #[.slice a' (spV n m xs p).length cap', .bool (spB n m xs p)]) ∧ OwnI w' w.heap.size (.slice a' (spV n m xs p).length cap') (spV n m xs p) ∧ Below w.heap.size w w' := by
  have hb0 : Below w.heap.size w (w.alloc (.cells #[.int .i64 n, .int .i64 m, .slice a xs.length cap] 27)) := (by repeat (first | exact Below.refl _ _ | assumption | refine Below.alloc ?_ (by first | exact Nat.le_refl _ | (simp only [World.size_alloc, World.size_setCell, World.size_drew]; omega) | omega) _ | refine Below.setCell ?_ (by first | exact Nat.le_refl _ | (simp only [World.size_alloc, World.size_setCell, World.size_drew]; omega) | omega) _ | refine Below.drew ?_))
  have HFW := Lib.hid (feFew_any n m a xs cap _ (hx.below hb0))
  cases hr : spG n m xs p
  · have H1 : Hid (spV n m xs p = []) := by simp [Hid, spV, spO, hr]
    have H2 : Hid (spB n m xs p = false) := by simp [Hid, spB, spO, hr]
    rw [H1.out, H2.out]
    obtain ⟨fw, hfw⟩ : ∃ fw, fw = (tabB n m xs && decide ((ecL n m xs).length ≤ 9)) := ⟨_, rfl⟩
    rw [← hfw] at HFW
    rw [spG, ← hfw] at hr
    clear hfw
    cases fw
    · clear hr
      go_enter Try.func48, Try.ntmps48
      go_wp2_with fail
      refine HFW.out.mono ?_
      rintro e w1 ⟨rfl, hb⟩
      have b1 : Below w.heap.size w w1 := hb0.trans (hb.mono (by simp))
      go_wp2_with fail
      refine bodyPost_ret (v := .tuple #[.slice none 0 0, .bool false]) (by simp [results, Try.results48, go_sem]) rfl ?_
      exact ⟨none, 0, rfl, OwnI.nil _ _, b1⟩
    · have hin : inB p 1 4 = false := by
        rw [Bool.true_and, Bool.and_eq_false_iff] at hr
        simp only [decide_eq_false_iff_not] at hr
        simp only [inB, Bool.and_eq_false_iff, decide_eq_false_iff_not]
        omega
      have HIN := Lib.hid hin
      clear hr hin
      go_enter Try.func48, Try.ntmps48
      go_wp2_with fail
      refine HFW.out.mono ?_
      rintro e w1 ⟨rfl, hb⟩
      have b1 : Below w.heap.size w w1 := hb0.trans (hb.mono (by simp))
      clear hb
      go_wp2_with fail
      refine (l1In_any _ _ _ _).mono ?_
      rw [HIN.out]
      rintro e w2 ⟨rfl, rfl⟩
      go_wp2_with fail
      refine bodyPost_ret (v := .tuple #[.slice none 0 0, .bool false]) (by simp [results, Try.results48, go_sem]) rfl ?_
      exact ⟨none, 0, rfl, OwnI.nil _ _, b1⟩
  · have hG := hr
    simp only [spG, Bool.and_eq_true, decide_eq_true_eq] at hG
    obtain ⟨⟨⟨ht, h9⟩, h1⟩, h4⟩ := hG
    obtain ⟨P, rfl⟩ := Int.eq_ofNat_of_zero_le (show 0 ≤ p by omega)
    have hp := tabB_p ht
    obtain ⟨R, hR⟩ := Int.eq_ofNat_of_zero_le (show 0 ≤ n by have := hp.r0; omega)
    obtain ⟨C, hC⟩ := Int.eq_ofNat_of_zero_le (show 0 ≤ m by have := hp.c0; omega)
    subst hR hC
    have hE : ecL R C xs = ecTo xs C (R * C) := by simp [ecL, ht]
    have hfull := sp_full hr
    rw [hE] at hfull h9
    have HV : Hid (spV R C xs P = (fullS (frO R C xs) (ecTo xs C (R * C)) P (ecTo xs C (R * C)).length []).getD []) := by rw [Hid, spV, hfull]
    have HB : Hid (spB R C xs P = (fullS (frO R C xs) (ecTo xs C (R * C)) P (ecTo xs C (R * C)).length []).isSome) := by rw [Hid, spB, hfull]
    have HIN : Hid (inB (P : Int) 1 4 = true) := by simp [Hid, inB]; omega
    have HW0 : Hid ((tabB R C xs && decide ((ecL R C xs).length ≤ 9)) = true) := by rw [Hid, ht, hE]; simpa using h9
    rw [HW0.out] at HFW
    have HS := Lib.hid (fun (ac : Option Addr) (cpc : Nat) (w' : World) (hx' : Rd w' a xs) (hy' : Rd w' ac (ecTo xs C (R * C))) => feSplit_any R C P a xs cap ac (ecTo xs C (R * C)) cpc w'.heap.size hE.symm ht (by omega) h9 (ecTo xs C (R * C)).length [] none 0 w' (by simp) (Nat.le_refl _) hx' hy' (OwnI.nil _ _))
    have HP := Lib.hid hp
    rw [HV.out, HB.out]
    obtain ⟨r, hrr⟩ : ∃ r, r = fullS (frO R C xs) (ecTo xs C (R * C)) P (ecTo xs C (R * C)).length [] := ⟨_, rfl⟩
    rw [← hrr] at HS ⊢
    clear hr ht hp hE hfull hrr HV HB
    go_enter Try.func48, Try.ntmps48
    go_wp2_with fail
    refine HFW.out.mono ?_
    rintro e w1 ⟨rfl, hb⟩
    have b1 : Below w.heap.size w w1 := hb0.trans (hb.mono (by simp))
    have A1 := (Box3.new w (.int .i64 (R : Int)) (.int .i64 (C : Int)) (.slice a xs.length cap) 27).below hb
    have b1s := b1.size
    have ⟨zA, cA, dA, eA⟩ := A1
    clear hb hb0
    go_wp2_with fail
    refine (l1In_any _ _ _ _).mono ?_
    rw [HIN.out]
    rintro e w2 ⟨rfl, rfl⟩
    go_wp2_with fail
    go_region_held3 (fun w' => w'.cell? ⟨w.heap.size, 0, none⟩ = some (.int .i64 (R : Int)) ∧ w'.cell? ⟨w.heap.size, 1, none⟩ = some (.int .i64 (C : Int)) ∧ w'.cell? ⟨w.heap.size, 2, none⟩ = some (.slice a xs.length cap))
      (first | exact ⟨A4.2.1, A4.2.2.1, A4.2.2.2⟩ | exact ⟨A3.2.1, A3.2.2.1, A3.2.2.2⟩ | go_keep)
      (first | (have _g := ht3; go_at_call 82; refine (HS.out _ _ _ (hx.below (b1.trans (ht3.mono b1s))) ho3.rd).mono ?_; rintro e w4 ⟨hb4, a4, c4, rfl, ho4⟩; have ht4 := ht3.trans (hb4.mono ht3.size); have A4 := A3.below hb4) | (go_at_call 74; refine (feEmpty_any R C a xs cap _ (hx.below (b1.trans ((Joins.below_draws _ _ _).mono b1s))) HP.out).mono ?_; rintro e w3 ⟨a3, c3, rfl, ho3, hb3⟩; have ht3 : Below w1.heap.size w1 w3 := (Joins.below_draws _ _ _).trans hb3; have A3 := A1.below ht3))
    all_goals
      go_wp2_with fail
      refine bodyPost_ret (v := .tuple #[.slice a4 (r.getD []).length c4, .bool r.isSome]) (by simp [results, Try.results48, go_sem]) rfl ?_
      exact ⟨a4, c4, rfl, ho4.mono (by have := ht3.size; omega), b1.trans (ht4.mono b1s)⟩

theorem fullSet_any (n : Int) (w : World) (h0 : 0 ≤ n) (h1 : n ≤ 10) :
    Calls Try.prog 102 #[.int .i64 n] w fun e w' => e = .returned (.int .i64 (2 ^ n.toNat - 1)) ∧ w = w' := by
  have hf := Lib.hid (full_eq h0 h1)
  go_enter Try.func102, Try.ntmps102
  go_wp2
  go_ret
  exact ⟨ret_int hf.out, rfl⟩

theorem isSet_any (s n : Int) (w : World) (h0' : 0 ≤ n) (h1' : n ≤ 10) :
    Calls Try.prog 89 #[.int .i64 s, .int .i64 n] w fun e w' => e = .returned (.bool (inB s 0 (2 ^ n.toNat - 1))) ∧ w = w' := by
  by_cases h0 : 0 ≤ s
  · by_cases h1 : s ≤ 2 ^ n.toNat - 1
    · have hf := Lib.hid (inB_iff.2 ⟨h0, h1⟩)
      go_enter Try.func89, Try.ntmps89
      go_wp2_with (go_at_call 102; refine (fullSet_any _ _ h0' h1').mono ?_; rintro e w' ⟨rfl, rfl⟩)
      go_ret
      exact ⟨ret_bool (by rw [hf.out]; try simp [h1]), rfl⟩
    · have hf := Lib.hid (inB_no (lo := 0).2 (.inr (show 2 ^ n.toNat - 1 < s by omega)))
      go_enter Try.func89, Try.ntmps89
      go_wp2_with (go_at_call 102; refine (fullSet_any _ _ h0' h1').mono ?_; rintro e w' ⟨rfl, rfl⟩)
      go_ret
      exact ⟨ret_bool (by rw [hf.out]; try simp [h1]), rfl⟩
  · have hf := Lib.hid (inB_no (hi := 2 ^ n.toNat - 1).2 (.inl (show s < 0 by omega)))
    go_enter Try.func89, Try.ntmps89
    go_wp2_with fail
    go_ret
    exact ⟨ret_bool (by rw [hf.out]; try simp [h1]), rfl⟩

theorem areSets_any (a : Option Addr) (xs : List Int) (cap : Nat) (n : Int) (w : World) (hx : Rd w a xs) (h0' : 0 ≤ n) (h1' : n ≤ 10) :
    Calls Try.prog 55 #[.slice a xs.length cap, .int .i64 n] w fun e w' => e = .returned (.bool (allB xs 0 (2 ^ n.toNat - 1))) ∧ w = w' := by
  have hlen := hx.len
  go_enter Try.func55, Try.ntmps55
  go_wp2_with fail
  go_loop [9] (fun i => ∃ k : Nat, k ≤ xs.length ∧ i = .int .i64 k ∧ allB (xs.take k) 0 (2 ^ n.toNat - 1) = true) (fun i => xs.length - (intOf i).toNat)
  case atStart => exact ⟨0, Nat.zero_le _, rfl, rfl⟩
  case round =>
    obtain ⟨k, hk, rfl, hall⟩ := hrel
    by_cases hlt : k < xs.length
    · obtain ⟨b, off, rfl, hbl, hc⟩ := hx.cell k hlt
      cases hin : inB (nth xs k) 0 (2 ^ n.toNat - 1)
      · have hf := Lib.hid (allB_false hlt hin)
        go_wp2_with (go_at_call 89; refine (isSet_any _ _ _ h0' h1').mono ?_; rintro e w' ⟨rfl, rfl⟩)
        go_ret
        exact ⟨ret_bool hf.out.symm, rfl⟩
      · go_wp2_with (go_at_call 89; refine (isSet_any _ _ _ h0' h1').mono ?_; rintro e w' ⟨rfl, rfl⟩)
        go_round
        case rel => exact ⟨k + 1, by omega, by go_num, by rw [allB_take _ _ _ _ hlt, hall, hin]; rfl⟩
        case measure => simp [intOf]; omega
    · go_wp2_with fail
      go_ret
      exact ⟨ret_bool (by rw [← hall, List.take_of_length_le (by omega)]), rfl⟩

theorem isShape_any (r c : Int) (w : World) :
    Calls Try.prog 54 #[.int .i64 r, .int .i64 c] w fun e w' => e = .returned (.bool (inB r 1 6 && inB c 1 6)) ∧ w = w' := by
  by_cases h0 : 1 ≤ r
  · by_cases h1 : r ≤ 6
    · by_cases h2 : 1 ≤ c
      all_goals
        go_enter Try.func54, Try.ntmps54
        go_wp2
        go_ret
        exact ⟨ret_bool (by simp [inB, h0, h1, h2] <;> omega), rfl⟩
    · go_enter Try.func54, Try.ntmps54
      go_wp2
      go_ret
      exact ⟨ret_bool (by simp [inB, h0, h1] <;> omega), rfl⟩
  · go_enter Try.func54, Try.ntmps54
    go_wp2
    go_ret
    exact ⟨ret_bool (by simp [inB, h0] <;> omega), rfl⟩

theorem iIsTable_any (n m : Int) (a : Option Addr) (xs : List Int) (cap : Nat) (w : World) (hn : -9223372036854775808 ≤ n ∧ n ≤ 9223372036854775807) (hm : -9223372036854775808 ≤ m ∧ m ≤ 9223372036854775807) (hx : Rd w a xs) :
    Calls Try.prog 18 #[.agg #[.int .i64 n, .int .i64 m, .slice a xs.length cap]] w fun e w' => e = .returned (.bool (tabB n m xs)) ∧ Below w.heap.size w w' := by
  have hx1 := hx.alloc (.cells #[.int .i64 n, .int .i64 m, .slice a xs.length cap] 27)
  have hlen := hx.len
  cases h1 : (inB n 1 6 && inB m 1 6)
  · have HR : Hid (tabB n m xs = false) := by
      simp only [Hid, tabB]
      rw [← Bool.and_assoc, h1]; rfl
    have HS := Lib.hid h1
    clear h1
    go_enter Try.func18, Try.ntmps18
    go_wp2_with fail
    refine (isShape_any _ _ _).mono ?_
    rw [HS.out]
    rintro e w' ⟨rfl, rfl⟩
    go_wp2_with fail
    go_ret
    exact ⟨ret_bool HR.out.symm, (by repeat (first | exact Below.refl _ _ | assumption | refine Below.alloc ?_ (by first | exact Nat.le_refl _ | (simp only [World.size_alloc, World.size_setCell, World.size_drew]; omega) | omega) _ | refine Below.setCell ?_ (by first | exact Nat.le_refl _ | (simp only [World.size_alloc, World.size_setCell, World.size_drew]; omega) | omega) _ | refine Below.drew ?_))⟩
  · have ⟨q1, q2⟩ : inB n 1 6 = true ∧ inB m 1 6 = true := by simpa using h1
    have hq := inB_iff.1 q2
    have m0 : 0 ≤ m := by omega
    have m1 : m ≤ 10 := by omega
    cases h2 : ((xs.length : Int) == n)
    · have HR : Hid (tabB n m xs = false) := by
        have : ¬ (xs.length : Int) = n := by simpa using h2
        simp [Hid, tabB, this]
      have HS := Lib.hid h1
      clear h1
      go_enter Try.func18, Try.ntmps18
      go_wp2_with fail
      refine (isShape_any _ _ _).mono ?_
      rw [HS.out]
      rintro e w' ⟨rfl, rfl⟩
      go_wp2_with fail
      go_ret
      exact ⟨ret_bool HR.out.symm, (by repeat (first | exact Below.refl _ _ | assumption | refine Below.alloc ?_ (by first | exact Nat.le_refl _ | (simp only [World.size_alloc, World.size_setCell, World.size_drew]; omega) | omega) _ | refine Below.setCell ?_ (by first | exact Nat.le_refl _ | (simp only [World.size_alloc, World.size_setCell, World.size_drew]; omega) | omega) _ | refine Below.drew ?_))⟩
    · have HR : Hid (tabB n m xs = allB xs 0 (2 ^ m.toNat - 1)) := by
        have : (xs.length : Int) = n := by simpa using h2
        simp [Hid, tabB, q1, q2, this]
      have HS := Lib.hid h1
      clear h1
      go_enter Try.func18, Try.ntmps18
      go_wp2_with fail
      refine (isShape_any _ _ _).mono ?_
      rw [HS.out]
      rintro e w' ⟨rfl, rfl⟩
      go_wp2_with fail
      refine (areSets_any _ _ _ _ _ hx1 m0 m1).mono ?_
      rintro e w' ⟨rfl, rfl⟩
      go_wp2_with fail
      go_ret
      exact ⟨ret_bool HR.out.symm, (by repeat (first | exact Below.refl _ _ | assumption | refine Below.alloc ?_ (by first | exact Nat.le_refl _ | (simp only [World.size_alloc, World.size_setCell, World.size_drew]; omega) | omega) _ | refine Below.setCell ?_ (by first | exact Nat.le_refl _ | (simp only [World.size_alloc, World.size_setCell, World.size_drew]; omega) | omega) _ | refine Below.drew ?_))⟩

theorem hasElement_any (s i : Int) (w : World) (h0 : 0 ≤ s) (h1 : s ≤ 9223372036854775807) (hi : 0 ≤ i) :
    Calls Try.prog 73 #[.int .i64 s, .int .i64 i] w fun e w' => e = .returned (.bool (hasB s i)) ∧ w = w' := by
  have H := Lib.hid (has_and h0 h1 hi)
  go_enter Try.func73, Try.ntmps73
  go_wp2
  go_ret
  exact ⟨ret_bool H.out, rfl⟩

theorem tabHas_any (n m : Int) (a : Option Addr) (xs : List Int) (len cap : Nat) (r : Nat) (c : Int) (w : World) (hx : Rd w a xs) (hl : len = xs.length) (hr : r < xs.length) (h0 : 0 ≤ nth xs r) (h1 : nth xs r < 1024) (hc : 0 ≤ c) :
    Calls Try.prog 59 #[.agg #[.int .i64 n, .int .i64 m, .slice a len cap], .int .i64 r, .int .i64 c] w fun e w' => e = .returned (.bool (hasB (nth xs r) c)) ∧ Below w.heap.size w w' := by
  subst hl
  obtain ⟨b, off, rfl, hbl, hcell⟩ := (hx.alloc (.cells #[.int .i64 n, .int .i64 m, .slice a xs.length cap] 27)).cell r hr
  have h1' : nth xs r ≤ 9223372036854775807 := by omega
  clear h1
  go_enter Try.func59, Try.ntmps59
  go_wp2_with fail
  refine (hasElement_any _ _ _ h0 h1' hc).mono ?_
  rintro e w' ⟨rfl, rfl⟩
  go_wp2_with fail
  go_ret
  exact ⟨rfl, (by repeat (first | exact Below.refl _ _ | assumption | refine Below.alloc ?_ (by first | exact Nat.le_refl _ | (simp only [World.size_alloc, World.size_setCell, World.size_drew]; omega) | omega) _ | refine Below.setCell ?_ (by first | exact Nat.le_refl _ | (simp only [World.size_alloc, World.size_setCell, World.size_drew]; omega) | omega) _ | refine Below.drew ?_))⟩

theorem ret_ii {a b c d : Int} (h : a = b) (h2 : c = d) : Ending.returned (.tuple #[.int .i64 a, .int .i64 c]) = .returned (.tuple #[.int .i64 b, .int .i64 d]) := by rw [h, h2]
theorem tabPlace_any (n : Int) (C : Nat) (a : Option Addr) (len cap : Nat) (k : Nat) (w : World) (h0 : 0 < C) (h1 : C ≤ 6) (hk : k ≤ 36) :
    Calls Try.prog 58 #[.agg #[.int .i64 n, .int .i64 (C : Int), .slice a len cap], .int .i64 (k : Int)] w fun e w' => e = .returned (.tuple #[.int .i64 ((k / C : Nat) : Int), .int .i64 ((k % C : Nat) : Int)]) ∧ Below w.heap.size w w' := by
  have hle : k / C ≤ k := Nat.div_le_self _ _
  have hq : wrap64 ((k : Int) / (C : Int)) = ((k / C : Nat) : Int) := by
    rw [show (k : Int) / (C : Int) = ((k / C : Nat) : Int) from rfl]
    generalize k / C = q at *
    exact IntWalk.wrap64_in _ ⟨by omega, by omega⟩
  go_enter Try.func58, Try.ntmps58
  go_wp2_with fail
  go_quiet (fail)
  go_wp2_with fail
  go_ret2
  exact ⟨ret_ii hq rfl, (Below.refl _ _).alloc (Nat.le_refl _) _ |>.trans (Joins.below_draws _ _ _)⟩

set_option maxRecDepth 100000 in
theorem iEmpty_any (n m : Int) (a : Option Addr) (xs : List Int) (cap : Nat) (w : World) (hn : -9223372036854775808 ≤ n ∧ n ≤ 9223372036854775807) (hm : -9223372036854775808 ≤ m ∧ m ≤ 9223372036854775807) (hx : Rd w a xs) :
    Calls Try.prog 43 #[.agg #[.int .i64 n, .int .i64 m, .slice a xs.length cap]] w fun e w' => ∃ a' cap', e = .returned (.tuple #[.slice a' (ecL n m xs).length cap', .bool (tabB n m xs)]) ∧ OwnI w' w.heap.size (.slice a' (ecL n m xs).length cap') (ecL n m xs) ∧ Below w.heap.size w w' := by
  have hb0 : Below w.heap.size w (w.alloc (.cells #[.int .i64 n, .int .i64 m, .slice a xs.length cap] 27)) := (by repeat (first | exact Below.refl _ _ | assumption | refine Below.alloc ?_ (by first | exact Nat.le_refl _ | (simp only [World.size_alloc, World.size_setCell, World.size_drew]; omega) | omega) _ | refine Below.setCell ?_ (by first | exact Nat.le_refl _ | (simp only [World.size_alloc, World.size_setCell, World.size_drew]; omega) | omega) _ | refine Below.drew ?_))
  cases hr : tabB n m xs
  · have H1 : Hid (ecL n m xs = []) := by simp [Hid, ecL, hr]
    have HM := Lib.hid hr
    clear hr
    go_enter Try.func43, Try.ntmps43
    go_wp2_with fail
    refine (iIsTable_any _ _ _ _ _ _ hn hm (hx.below hb0)).mono ?_
    rw [HM.out]
    rintro e w1 ⟨rfl, hb⟩
    have b1 : Below w.heap.size w w1 := hb0.trans (hb.mono (by simp))
    go_wp2_with fail
    refine bodyPost_ret (v := .tuple #[.slice none 0 0, .bool false]) (by simp [results, Try.results43, go_sem]) rfl ?_
    exact ⟨none, 0, by rw [H1.out]; rfl, by rw [H1.out]; exact OwnI.nil _ _, b1⟩
  · have hp := tabB_p hr
    obtain ⟨R, hR⟩ := Int.eq_ofNat_of_zero_le (show 0 ≤ n by have := hp.r0; omega)
    obtain ⟨C, hC⟩ := Int.eq_ofNat_of_zero_le (show 0 ≤ m by have := hp.c0; omega)
    subst hR hC
    have r1 : R ≤ 6 := by have := hp.r1; omega
    have c0 : 1 ≤ C := by have := hp.c0; omega
    have c1 : C ≤ 6 := by have := hp.c1; omega
    have hl : xs.length = R := by have := hp.len; omega
    have HL := Lib.hid hl
    have HM := Lib.hid hr
    obtain ⟨D, hD⟩ : ∃ D, D = R * C := ⟨_, rfl⟩
    have hD36 : D ≤ 36 := by rw [hD]; exact Nat.mul_le_mul r1 c1
    have hmul : wrap64 ((R : Int) * (C : Int)) = (D : Int) := by
      rw [← Int.natCast_mul, ← hD]
      exact IntWalk.wrap64_in _ ⟨by omega, by omega⟩
    have H1 : Hid (ecL R C xs = ecTo xs C D) := by simp [Hid, ecL, hr, hD]
    have HD := Lib.hid hD
    have hrc : Hid (∀ k, k < D → k / C < xs.length) := fun k hk => by rw [HL.out]; exact Nat.div_lt_of_lt_mul (by rw [Nat.mul_comm, ← HD.out]; exact hk)
    have HPL := Lib.hid (fun k (hk : k < D) w' => tabPlace_any (R : Int) C a xs.length cap k w' (by omega) c1 (by omega))
    have HH := Lib.hid (fun (r c : Nat) w' (h1 : Rd w' a xs) (h2 : r < xs.length) => tabHas_any (R : Int) (C : Int) a xs xs.length cap r (c : Int) w' h1 rfl h2 (hp.pos r h2) (by have := hp.small r h2; omega) (by omega))
    clear hr hp hl hD
    go_enter Try.func43, Try.ntmps43
    go_wp2_with fail
    refine (iIsTable_any _ _ _ _ _ _ hn hm (hx.below hb0)).mono ?_
    rw [HM.out]
    rintro e w1 ⟨rfl, hb⟩
    have b1 : Below w.heap.size w w1 := hb0.trans (hb.mono (by simp))
    have A1 := (Box3.new w (.int .i64 (R : Int)) (.int .i64 (C : Int)) (.slice a xs.length cap) 27).below hb
    have ⟨zA, cA, dA, eA⟩ := A1
    have HA1 := Lib.hid A1
    have HB1 := Lib.hid b1
    have HX := Lib.hid hx
    have hz1 : w.heap.size + 1 ≤ w1.heap.size := by omega
    clear hb hb0 b1 A1 hx
    go_wp2_with fail
    rw [hmul]
    clear cA dA eA
    go_loopw [4, 14] (fun v i wr => ∃ k : Nat, k ≤ D ∧ i = .int .i64 k ∧ OwnI wr (w.heap.size + 1) v (ecTo xs C k) ∧ Below w.heap.size w wr ∧ Box3 wr w.heap.size (.int .i64 (R : Int)) (.int .i64 (C : Int)) (.slice a xs.length cap)) (fun _ i _ => D - (intOf i).toNat)
    case atStart => exact ⟨0, Nat.zero_le _, rfl, OwnI.nil _ _, HB1.out, HA1.out⟩
    case round =>
      obtain ⟨k, hk, rfl, hown, hb, hA⟩ := hrel
      have HO := Lib.hid hown
      have HB := Lib.hid hb
      have HA := Lib.hid hA
      have hbs := hb.size
      by_cases hlt : k < D
      · have hrk := hrc.out k hlt
        obtain ⟨r, hrr⟩ : ∃ r, r = k / C := ⟨_, rfl⟩
        obtain ⟨c, hcc⟩ : ∃ c, c = k % C := ⟨_, rfl⟩
        have HP1 := Lib.hid (HPL.out k hlt)
        have HEQ : Hid (ecTo xs C (k+1) = if hasB (nth xs r) (c : Int) then ecTo xs C k else ecTo xs C k ++ [(k : Int)]) := by rw [Hid, ecTo, ← hrr, ← hcc]
        rw [← hrr] at hrk
        simp only [← hrr, ← hcc] at HP1
        have hlen := ecTo_len xs C k
        have ⟨zA, cA, dA, eA⟩ := hA
        clear hrr hcc hown hb hA
        go_wp2_with fail
        go_region_held3 (fun w' => w'.cell? ⟨w.heap.size, 0, none⟩ = some (.int .i64 (R : Int)) ∧ w'.cell? ⟨w.heap.size, 1, none⟩ = some (.int .i64 (C : Int)) ∧ w'.cell? ⟨w.heap.size, 2, none⟩ = some (.slice a xs.length cap))
          (first | exact ⟨A3.2.1, A3.2.2.1, A3.2.2.2⟩ | exact ⟨A2.2.1, A2.2.2.1, A2.2.2.2⟩ | go_keep)
          (first | (have _g := ht2; go_at_call 59; refine (HH.out r c _ (HX.out.below (HB.out.trans (ht2.mono hbs))) hrk).mono ?_; rintro e w3 ⟨rfl, hb3⟩; have A3 := A2.below hb3) | (go_at_call 58; refine (HP1.out _).mono ?_; rintro e w2 ⟨rfl, hb2⟩; have ht2 : Below wr.heap.size wr w2 := (Joins.below_draws _ _ _).trans hb2; have A2 := HA.out.below ht2))
        have ht3 := ht2.trans (hb3.mono ht2.size)
        have b3 := HB.out.trans (ht3.mono hbs)
        have h3s := ht3.size
        have HA3 := Lib.hid A3
        have HO3 := Lib.hid (HO.out.below ht3 (Nat.le_refl _))
        cases hh : hasB (nth xs r) (c : Int)
        · have HE : Hid (ecTo xs C (k+1) = ecTo xs C k ++ [(k : Int)]) := by rw [Hid, HEQ.out, hh]; rfl
          have h63 : (ecTo xs C k).length ≤ 1048576 := by omega
          clear hh A2 A3 ht2 hb2 hb3 cA dA eA
          go_wp2_with (at_builtin; refine push_at rfl _ _ rfl (z := (k : Int)) rfl HO3.out rfl h63 (by omega) ?_)
          intro v5 w5 o5 hg5 hat5
          have hUl := HO3.out.lt
          have b5 := b3.trans (below_of_grown hg5 (fun c e => by have := (hUl c e).1; omega) (by omega))
          have A5 := HA3.out.kept hg5 (ne_own (fun c e => by have := (hUl c e).1; omega))
          clear hUl hat5 hg5
          go_wp2_with fail
          go_roundw
          case rel => exact ⟨k + 1, by omega, by go_num, by rw [HE.out]; exact o5, b5, A5⟩
          case measure => simp [intOf]; omega
        · have HE : Hid (ecTo xs C (k+1) = ecTo xs C k) := by rw [Hid, HEQ.out, hh]; rfl
          clear hh A2 A3 ht2 hb2 hb3 cA dA eA
          go_wp2_with fail
          go_roundw
          case rel => exact ⟨k + 1, by omega, by go_num, by rw [HE.out]; exact HO3.out, b3, HA3.out⟩
          case measure => simp [intOf]; omega
      · obtain rfl : k = D := by omega
        obtain ⟨av, cv, ev⟩ := hown.form
        subst ev
        clear hown hb hA
        go_wp2_with fail
        refine bodyPost_ret (v := .tuple #[.slice av (ecTo xs C k).length cv, .bool true]) (by simp [results, Try.results43, go_sem]) rfl ?_
        exact ⟨av, cv, by rw [H1.out], by rw [H1.out]; exact HO.out.mono (by omega), HB.out⟩

theorem sliceIndex_any (a : Option Addr) (es : List Int) (cap : Nat) (i : Int) (w : World) (hx : Rd w a es) :
    Calls Try.prog 103 #[.slice a es.length cap, .int .i64 i] w fun e w' => ∃ r : Int, e = .returned (.int .i64 r) ∧ decide (0 ≤ r) = memB es i ∧ w = w' := by
  have hlen := hx.len
  go_enter Try.func103, Try.ntmps103
  go_wp2_with fail
  go_loop [8] (fun i' => ∃ k : Nat, k ≤ es.length ∧ i' = .int .i64 k ∧ ∀ j, j < k → nth es j ≠ i) (fun i' => es.length - (intOf i').toNat)
  case atStart => exact ⟨0, Nat.zero_le _, rfl, fun j hj => by omega⟩
  case round =>
    obtain ⟨k, hk, rfl, hall⟩ := hrel
    have HA := Lib.hid hall
    clear hall
    by_cases hlt : k < es.length
    · obtain ⟨b, off, rfl, hbl, hc⟩ := hx.cell k hlt
      have k0 : (0 : Int) ≤ (k : Int) := by omega
      have k1 : (k : Int) < (es.length : Int) := by omega
      cases he : (i == nth es k)
      · have HE : Hid (nth es k ≠ i) := by
          have : ¬ i = nth es k := by simpa using he
          exact fun e => this e.symm
        go_wp2_with fail
        go_round
        case rel =>
          refine ⟨k + 1, by omega, by go_num, fun j hj => ?_⟩
          by_cases e : j = k
          · rw [e]; exact HE.out
          · exact HA.out j (by omega)
        case measure => simp [intOf]; omega
      · have HM : Hid (memB es i = true) := memB_iff.2 ⟨k, hlt, (show i = nth es k by simpa using he).symm⟩
        go_wp2_with fail
        go_ret
        exact ⟨(k : Int), rfl, by rw [HM.out]; simp, rfl⟩
    · have HM : Hid (memB es i = false) := by
        rw [Hid, ← Bool.not_eq_true, memB_iff]
        rintro ⟨j, hj, e⟩
        exact HA.out j (by omega) e
      go_wp2_with fail
      go_ret
      exact ⟨-1, rfl, by rw [HM.out]; rfl, rfl⟩
theorem sliceHas_any (a : Option Addr) (es : List Int) (cap : Nat) (i : Int) (w : World) (hx : Rd w a es) :
    Calls Try.prog 95 #[.slice a es.length cap, .int .i64 i] w fun e w' => e = .returned (.bool (memB es i)) ∧ w = w' := by
  go_enter Try.func95, Try.ntmps95
  go_wp2_with fail
  refine (sliceIndex_any _ _ _ _ _ hx).mono ?_
  rintro e w' ⟨r, rfl, hr, rfl⟩
  have HR := Lib.hid hr
  clear hr
  go_wp2_with fail
  go_ret
  exact ⟨ret_bool HR.out, rfl⟩

set_option maxRecDepth 100000 in
theorem areEmpty_any (n m : Int) (a : Option Addr) (xs : List Int) (cap : Nat) (b : Option Addr) (cs : List Int) (cap2 : Nat) (w : World) (hn : -9223372036854775808 ≤ n ∧ n ≤ 9223372036854775807) (hm : -9223372036854775808 ≤ m ∧ m ≤ 9223372036854775807) (hx : Rd w a xs) (hy : Rd w b cs) :
    Calls Try.prog 77 #[.agg #[.int .i64 n, .int .i64 m, .slice a xs.length cap], .slice b cs.length cap2] w fun e w' => e = .returned (.bool (feB n m xs cs)) ∧ Below w.heap.size w w' := by
  have hlen := hy.len
  have hb0 : Below w.heap.size w (w.alloc (.cells #[.int .i64 n, .int .i64 m, .slice a xs.length cap] 27)) := (by repeat (first | exact Below.refl _ _ | assumption | refine Below.alloc ?_ (by first | exact Nat.le_refl _ | (simp only [World.size_alloc, World.size_setCell, World.size_drew]; omega) | omega) _ | refine Below.setCell ?_ (by first | exact Nat.le_refl _ | (simp only [World.size_alloc, World.size_setCell, World.size_drew]; omega) | omega) _ | refine Below.drew ?_))
  cases hr : tabB n m xs
  · have HF : Hid (feB n m xs cs = false) := by simp [Hid, feB, hr]
    have HM := Lib.hid hr
    clear hr
    go_enter Try.func77, Try.ntmps77
    go_wp2_with fail
    refine (iEmpty_any n m _ _ _ _ hn hm (hx.below hb0)).mono ?_
    rw [HM.out]
    rintro e w1 ⟨a1, c1, rfl, _, hb⟩
    have b1 : Below w.heap.size w w1 := hb0.trans (hb.mono (by simp))
    go_wp2_with fail
    go_ret
    exact ⟨ret_bool HF.out.symm, b1⟩
  · have HM := Lib.hid hr
    have HK : Hid (∀ i, okC xs m.toNat ((n.toNat * m.toNat : Nat) : Int) cs i = true ↔ memB (ecL n m xs) (nth cs i) = true ∧ (i = 0 ∨ nth cs (i-1) < nth cs i)) := fun i => by
      rw [okC_iff, ecL, if_pos hr]
    have HY := Lib.hid (fun h => feB_yes (cs := cs) hr h)
    clear hr
    go_enter Try.func77, Try.ntmps77
    go_wp2_with fail
    refine (iEmpty_any n m _ _ _ _ hn hm (hx.below hb0)).mono ?_
    rw [HM.out]
    rintro e w1 ⟨a1, c1, rfl, ho, hb⟩
    have b1 : Below w.heap.size w w1 := hb0.trans (hb.mono (by simp))
    have HE := Lib.hid ho.rd
    have HX := Lib.hid (hy.below b1)
    clear hb ho
    go_wp2_with fail
    go_loop [18] (fun i => ∃ k : Nat, k ≤ cs.length ∧ i = .int .i64 k ∧ ∀ j, j < k → okC xs m.toNat ((n.toNat * m.toNat : Nat) : Int) cs j = true) (fun i => cs.length - (intOf i).toNat)
    case atStart => exact ⟨0, Nat.zero_le _, rfl, fun j hj => by omega⟩
    case round =>
      obtain ⟨k, hk, rfl, hall⟩ := hrel
      have HA := Lib.hid hall
      clear hall
      by_cases hlt : k < cs.length
      · obtain ⟨b2, off2, rfl, hbl2, hc2⟩ := HX.out.cell k hlt
        have k0 : (0 : Int) ≤ (k : Int) := by omega
        have k1 : (k : Int) < (cs.length : Int) := by omega
        cases h1 : memB (ecL n m xs) (nth cs k)
        · have HF : Hid (feB n m xs cs = false) := feB_no hlt (by
            rw [← Bool.not_eq_true, HK.out, h1]; rintro ⟨h, _⟩; cases h)
          have H1 := Lib.hid h1
          clear h1
          go_wp2_with fail
          refine (sliceHas_any _ _ _ _ _ HE.out).mono ?_
          rw [H1.out]
          rintro e w' ⟨rfl, rfl⟩
          go_wp2_with fail
          go_ret
          exact ⟨ret_bool HF.out.symm, b1⟩
        · have H1 := Lib.hid h1
          by_cases hz : k = 0
          · have hz' : ¬ (0 : Int) < (k : Int) := by omega
            have HS : Hid (∀ j, j < k + 1 → okC xs m.toNat ((n.toNat * m.toNat : Nat) : Int) cs j = true) := fun j hj => by
              have e : j = k := by omega
              rw [e, HK.out]
              exact ⟨h1, .inl hz⟩
            clear h1 hz
            go_wp2_with fail
            refine (sliceHas_any _ _ _ _ _ HE.out).mono ?_
            rw [H1.out]
            rintro e w' ⟨rfl, rfl⟩
            go_wp2_with fail
            go_round
            case rel => exact ⟨k + 1, by omega, by go_num, HS.out⟩
            case measure => simp [intOf]; omega
          · have hz' : (0 : Int) < (k : Int) := by omega
            obtain ⟨j, hj⟩ : ∃ j, k = j + 1 := ⟨k - 1, by omega⟩
            have hkj : wrap64 ((k : Int) - 1) = (j : Int) := by rw [hj]; rw [show (((j + 1 : Nat) : Int) - 1) = (j : Int) by omega]; exact IntWalk.wrap64_in _ ⟨by omega, by omega⟩
            have hkj2 : (k : Int) - 1 = (j : Int) := by omega
            have j0 : (0 : Int) ≤ (j : Int) := by omega
            have j1 : (j : Int) < (cs.length : Int) := by omega
            obtain ⟨b3, off3, e3, hbl3, hc3⟩ := HX.out.cell j (by omega)
            simp only [Option.some.injEq, Addr.mk.injEq, and_true] at e3
            obtain ⟨rfl, rfl⟩ := e3
            have HJ : Hid (nth cs (k - 1) = nth cs j) := by rw [Hid, hj]; rfl
            clear hj
            by_cases hle : nth cs k ≤ nth cs j
            · have HF : Hid (feB n m xs cs = false) := feB_no hlt (by
                rw [← Bool.not_eq_true, HK.out, HJ.out]; rintro ⟨_, h | h⟩ <;> omega)
              clear h1 hz
              go_wp2_with fail
              refine (sliceHas_any _ _ _ _ _ HE.out).mono ?_
              rw [H1.out]
              rintro e w' ⟨rfl, rfl⟩
              go_wp2_with fail
              go_ret
              exact ⟨ret_bool HF.out.symm, b1⟩
            · have HS : Hid (∀ j, j < k + 1 → okC xs m.toNat ((n.toNat * m.toNat : Nat) : Int) cs j = true) := fun i hi => by
                by_cases e : i = k
                · rw [e, HK.out, HJ.out]
                  exact ⟨h1, .inr (by omega)⟩
                · exact HA.out i (by omega)
              clear h1 hz
              go_wp2_with fail
              refine (sliceHas_any _ _ _ _ _ HE.out).mono ?_
              rw [H1.out]
              rintro e w' ⟨rfl, rfl⟩
              go_wp2_with fail
              go_round
              case rel => exact ⟨k + 1, by omega, by go_num, HS.out⟩
              case measure => simp [intOf]; omega
      · have HF : Hid (feB n m xs cs = true) := HY.out (fun i hi => HA.out i (by omega))
        go_wp2_with fail
        go_ret
        exact ⟨ret_bool HF.out.symm, b1⟩

/-- the marks of the mirrored table -/
def mtR (n m : Int) (xs : List Int) : Int := if tabB n m xs then m else 0
def mtC (n m : Int) (xs : List Int) : Int := if tabB n m xs then n else 0
def mtL (n m : Int) (xs : List Int) : List Int := if tabB n m xs then tbL (fun r c => hasB (nth xs c) r) m.toNat n.toNat else []
theorem mtL_len (n m : Int) (xs : List Int) : (mtL n m xs).length ≤ 1048576 := by
  unfold mtL
  split
  · rename_i h
    have hp := tabB_p h
    have := hp.c1
    rw [tbL_len]; omega
  · simp

/-- what a call hands back that makes a table -/
def GotT (w : World) (n m : Int) (ys : List Int) (ok : Bool) (e : Ending) (w' : World) : Prop :=
  ∃ a cap, e = .returned (.tuple #[.agg #[.int .i64 n, .int .i64 m, .slice a ys.length cap], .bool ok]) ∧ OwnI w' w.heap.size (.slice a ys.length cap) ys ∧ Below w.heap.size w w'
theorem gotT_no {w : World} : GotT w 0 0 [] false (.returned (.tuple #[.agg #[.int .i64 0, .int .i64 0, .slice none 0 0], .bool false])) w := ⟨none, 0, rfl, OwnI.nil _ _, Below.refl _ _⟩

/-- a row of m integers of which the first k are filled, f 0 .. -/
def rowF (f : Nat → Int) (m k : Nat) : List Int := fmap f k ++ List.replicate (m - k) 0
theorem rowF_len (f : Nat → Int) {m k : Nat} (h : k ≤ m) : (rowF f m k).length = m := by simp [rowF, fmap_len]; omega
theorem rowF_set (f : Nat → Int) {m k : Nat} (h : k < m) : (rowF f m k).set k (f k) = rowF f m (k+1) := by
  apply List.ext_getElem?
  intro j
  rw [List.getElem?_set]
  by_cases hj : k = j
  · subst hj
    rw [if_pos rfl, if_pos (by rw [rowF_len f (by omega)]; exact h), rowF, List.getElem?_append_left (by rw [fmap_len]; omega)]
    simp [fmap]
  · simp only [hj, if_false, rowF, List.getElem?_append, fmap_len, List.getElem?_replicate]
    by_cases h1 : j < k
    · have h2 : j < k + 1 := by omega
      simp [h1, h2, fmap]
    · have h2 : ¬ j < k + 1 := by omega
      have h3 : j - k < m - k ↔ j - (k+1) < m - (k+1) := by omega
      simp [h1, h2, h3]
theorem rowF_zero (f : Nat → Int) {m k : Nat} (h : k < m) : (rowF f m k).set k 0 = rowF f m k := by
  apply List.ext_getElem?
  intro j
  rw [List.getElem?_set]
  by_cases hj : k = j
  · subst hj
    rw [if_pos rfl, if_pos (by rw [rowF_len f (by omega)]; exact h), rowF, List.getElem?_append_right (by rw [fmap_len]; omega)]
    rw [fmap_len, Nat.sub_self, List.getElem?_replicate, if_pos (by omega)]
  · simp [hj]
theorem rowF_end (f : Nat → Int) (m : Nat) : rowF f m m = fmap f m := by simp [rowF]
theorem made_row {w1 : World} {B : Nat} {v : Value} {m : Nat} (f : Nat → Int) (h : w1.ownsRow B 3 1 v m (madeCells (Value.int .i64 0).cells (m * 1)).toList) : OwnI w1 B v (rowF f m 0) := by
  unfold OwnI
  rw [rowF_len f (Nat.zero_le _)]
  simpa [Value.cells, toList_madeCells_one, fmap, rowF] using h

end Go.Proofs.Ytkfgeccgcffgaaa.splitCells
