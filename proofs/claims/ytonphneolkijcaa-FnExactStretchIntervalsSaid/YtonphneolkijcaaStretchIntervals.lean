/- PROVED: the law FnExactStretchIntervals returns true for every input, and each of its arguments reads afterwards as before. No conditions. -/
import Derived.Test.YtonphneolkijcaaRows
import Derived.WalkKit
import Derived.WalkSpells
import Derived.WalkLawsBesides
import Derived.Deep.QuietTactic
import Derived.BigQuiet
import Derived.ProofKit
import Derived.OpenShut
import Derived.ShutString
import Derived.ChangeOld
import Derived.Below
import Derived.Lib.SmallJoins
import Derived.Lib.Hide
import Derived.Deep.RegionHeld3
import Derived.Deep.AppendLies
import Derived.Deep.RegionLaw
import Derived.Deep.SlicePairs
namespace Go.Proofs.Ytonphneolkijcaa.stretchIntervals
open Go Go.RowKit
set_option linter.unusedVariables false
set_option linter.unusedSimpArgs false
set_option maxHeartbeats 400000


/-- a number of a list; a plain function, which the walk leaves alone -/
def nth (xs : List Int) (k : Nat) : Int := xs.getD k 0
theorem nth_get (xs : List Int) (k : Nat) (h : k < xs.length) : nth xs k = xs[k] := by simp [nth, h]
/-- the slice at an address reads as a list -/
structure Rd (w : World) (a : Option Addr) (xs : List Int) : Prop where
  len : xs.length ≤ 9223372036854775807
  cell : ∀ k, k < xs.length → ∃ b off, a = some ⟨b, off, none⟩ ∧ b < w.heap.size ∧ w.cell? ⟨b, off + k, none⟩ = some (.int .i64 (nth xs k))
theorem Rd.below {w w' : World} {a : Option Addr} {xs : List Int} (h : Rd w a xs) (hb : Below w.heap.size w w') : Rd w' a xs :=
  ⟨h.len, fun k hk => by
    obtain ⟨b, off, e, hl, hc⟩ := h.cell k hk
    exact ⟨b, off, e, Nat.lt_of_lt_of_le hl hb.size, (hb.cell (World.block_lt_of_cell? _ _ hc)).trans hc⟩⟩
theorem Rd.mid {w w1 w2 : World} {a : Option Addr} {xs : List Int} {B : Nat} (h : Rd w a xs) (hb : Below B w1 w2) (hB : w.heap.size ≤ B) (h1 : Rd w1 a xs) : Rd w2 a xs :=
  ⟨h.len, fun k hk => by
    obtain ⟨b, off, e, hl, hc⟩ := h.cell k hk
    obtain ⟨b', off', e', hl', hc'⟩ := h1.cell k hk
    rw [e] at e'
    simp only [Option.some.injEq, Addr.mk.injEq, and_true] at e'
    obtain ⟨rfl, rfl⟩ := e'
    exact ⟨b, off, e, Nat.lt_of_lt_of_le hl' hb.size, (hb.cell (by show b < B; omega)).trans hc'⟩⟩
theorem Rd.alloc {w : World} {a : Option Addr} {xs : List Int} (h : Rd w a xs) (o : Obj) : Rd (w.alloc o) a xs :=
  h.below ((Below.refl _ _).alloc (Nat.le_refl _) o)
theorem Rd.same {w w' : World} {a : Option Addr} {xs : List Int} (h : Rd w a xs) (hs : w.heap.size ≤ w'.heap.size)
    (hb : ∀ b off, a = some ⟨b, off, none⟩ → w'.heap[b]? = w.heap[b]?) : Rd w' a xs :=
  ⟨h.len, fun k hk => by
    obtain ⟨b, off, e, hl, hc⟩ := h.cell k hk
    exact ⟨b, off, e, Nat.lt_of_lt_of_le hl hs, (World.cell?_of_block (w := w) (a := ⟨b, off + k, none⟩) (hb b off e)).trans hc⟩⟩
/-- a slice value that owns the row of these integers, in a block from B on -/
def OwnI (w : World) (B : Nat) (v : Value) (xs : List Int) : Prop := w.ownsRow B 3 1 v xs.length (xs.map (Value.int .i64))
theorem OwnI.form {w : World} {B : Nat} {v : Value} {xs : List Int} (h : OwnI w B v xs) : ∃ a cap, v = .slice a xs.length cap := by
  rcases h.2 with ⟨rfl, h0⟩ | ⟨g, cap, cur, rfl, _⟩
  · exact ⟨none, 0, by rw [h0]⟩
  · exact ⟨_, _, rfl⟩
theorem OwnI.rd {w : World} {B n cap : Nat} {a : Option Addr} {xs : List Int} (h : OwnI w B (.slice a n cap) xs) : Rd w a xs := by
  rcases h.2 with ⟨e, h0⟩ | ⟨g, cap', cur, e, hb, hg, hn, hm, hs, ht⟩
  · exact ⟨by omega, fun k hk => by omega⟩
  · simp only [Value.slice.injEq] at e
    obtain ⟨rfl, rfl, rfl⟩ := e
    refine ⟨by unfold maxLen at hm; omega, fun k hk => ⟨g, 0, rfl, (Array.getElem?_eq_some_iff.1 hg).1, ?_⟩⟩
    have := World.ownsRow.cellAt h k (by omega)
    rw [Nat.zero_add, this]
    simp [nth, hk]
theorem OwnI.blk {w : World} {B n cap : Nat} {a : Option Addr} {xs : List Int} (h : OwnI w B (.slice a n cap) xs) : ∀ b off s, a = some ⟨b, off, s⟩ → B ≤ b ∧ b < w.heap.size := by
  intro b off s e
  subst e
  exact World.ownsRow.lt h b rfl
theorem OwnI.kept {w w' : World} {B : Nat} {v : Value} {xs : List Int} {row : Option Nat} (h : OwnI w B v xs) (hg : w.grownBy w' row) (hne : v.ownBlock = none ∨ v.ownBlock ≠ row) : OwnI w' B v xs := World.ownsRow.kept h hg hne
theorem OwnI.mono {w : World} {B B' : Nat} {v : Value} {xs : List Int} (h : OwnI w B v xs) (hB : B' ≤ B) : OwnI w B' v xs := by
  refine ⟨h.1, ?_⟩
  rcases h.2 with hn | ⟨g, cap, cur, e, hb, rest⟩
  · exact .inl hn
  · exact .inr ⟨g, cap, cur, e, by omega, rest⟩
theorem OwnI.below {w w' : World} {B B' : Nat} {v : Value} {xs : List Int} (h : OwnI w B v xs) (hb : Below B' w w') (hB : w.heap.size ≤ B') : OwnI w' B v xs := by
  refine ⟨h.1, ?_⟩
  rcases h.2 with hn | ⟨g, cap, cur, e, hb', hg, rest⟩
  · exact .inl hn
  · refine .inr ⟨g, cap, cur, e, hb', ?_, rest⟩
    rw [hb.block g (by have := (Array.getElem?_eq_some_iff.1 hg).1; omega)]
    exact hg
theorem ret_bool {a b : Bool} (h : a = b) : Ending.returned (.bool a) = .returned (.bool b) := by rw [h]
theorem ret_int {a b : Int} (h : a = b) : Ending.returned (.int .i64 a) = .returned (.int .i64 b) := by rw [h]
theorem val_int {a b : Int} (h : a = b) : Value.int .i64 a = .int .i64 b := by rw [h]
theorem grown_below {w w' : World} {g : Nat} (h : w.grownBy w' (some g)) (B : Nat) (hB : B ≤ g) (hs : B ≤ w.heap.size) : Below B w w' :=
  ⟨h.os, h.tape, h.output, h.size, fun k hk => h.block k (by omega) (by intro e; simp only [Option.some.injEq] at e; omega)⟩
theorem below_grown {w w' : World} {B : Nat} (h : Below B w w') (hB : w.heap.size ≤ B) (row : Option Nat) : w.grownBy w' row :=
  ⟨h.os, h.tape, h.output, h.size, fun k hk _ => h.block k (by omega)⟩
theorem bcell {W w1 : World} (hb : Below W.heap.size W w1) : (∀ b o, b < W.heap.size → w1.cell? ⟨b, o, none⟩ = W.cell? ⟨b, o, none⟩) ∧ (∀ b o, b < W.heap.size → w1.frozen? ⟨b, o, none⟩ = W.frozen? ⟨b, o, none⟩) :=
  ⟨fun b o h => hb.cell (p := ⟨b, o, none⟩) h, fun b o h => hb.frozen (p := ⟨b, o, none⟩) h⟩
theorem infoInt : (Try.prog.info? 3).map (fun i => (i.zero, i.size, i.bytes)) = some (some (.int .i64 0), 1, 8) := by kernel_rfl
theorem OwnI.setBelow {w : World} {B : Nat} {v : Value} {xs : List Int} (h : OwnI w B v xs) {p : Addr} (hp : p.block < B) (u : Value) : OwnI (w.setCell p u) B v xs := ownsRow_setCell_below h hp u
theorem OwnI.alloc {w : World} {B : Nat} {v : Value} {xs : List Int} (h : OwnI w B v xs) (o : Obj) : OwnI (w.alloc o) B v xs := h.below ((Below.refl _ _).alloc (Nat.le_refl _) o) (Nat.le_refl _)
theorem Below.mono' {B B' : Nat} {w w' : World} (h : Below B w w') (hB : B' ≤ B) : Below B' w w' := h.mono hB
/-- a block that holds two cells -/
def Box2 (w : World) (b : Nat) (u v : Value) : Prop := b < w.heap.size ∧ w.cell? ⟨b, 0, none⟩ = some u ∧ w.cell? ⟨b, 1, none⟩ = some v
theorem Box2.below {w w' : World} {b : Nat} {u v : Value} (h : Box2 w b u v) (hb : Below w.heap.size w w') : Box2 w' b u v :=
  ⟨Nat.lt_of_lt_of_le h.1 hb.size, (hb.cell (p := ⟨b, 0, none⟩) h.1).trans h.2.1, (hb.cell (p := ⟨b, 1, none⟩) h.1).trans h.2.2⟩
theorem Box2.new (w : World) (u v : Value) (t : TypeId) : Box2 (w.alloc (.cells #[u, v] t)) w.heap.size u v :=
  ⟨by simp, by simp, by simp⟩
theorem Box2.kept {w w' : World} {b : Nat} {u v : Value} {row : Option Nat} (h : Box2 w b u v) (hg : w.grownBy w' row) (hne : some b ≠ row) : Box2 w' b u v :=
  ⟨Nat.lt_of_lt_of_le h.1 hg.size, hg.cell h.2.1 hne, hg.cell h.2.2 hne⟩
theorem OwnI.lt {w : World} {B : Nat} {v : Value} {xs : List Int} (h : OwnI w B v xs) : ∀ b, v.ownBlock = some b → B ≤ b ∧ b < w.heap.size := World.ownsRow.lt h
theorem OwnI.cut {w : World} {B : Nat} {v : Value} {xs : List Int} (h : OwnI w B v xs) {U : Nat} (hU : w.heap.size ≤ U) : ∀ b, v.ownBlock = some b → B ≤ b ∧ b < U := fun b e => ⟨(h.lt b e).1, Nat.lt_of_lt_of_le (h.lt b e).2 hU⟩
/-- a block of two cells that may be written -/
def Var2 (w : World) (b : Nat) (u v : Value) : Prop := Box2 w b u v ∧ w.frozen? ⟨b, 0, none⟩ = false ∧ w.frozen? ⟨b, 1, none⟩ = false
theorem Var2.below {w w' : World} {b : Nat} {u v : Value} (h : Var2 w b u v) (hb : Below w.heap.size w w') : Var2 w' b u v :=
  ⟨h.1.below hb, (hb.frozen (p := ⟨b, 0, none⟩) h.1.1).trans h.2.1, (hb.frozen (p := ⟨b, 1, none⟩) h.1.1).trans h.2.2⟩
theorem Var2.new (w : World) (u v : Value) (t : TypeId) : Var2 (w.alloc (.cells #[u, v] t)) w.heap.size u v :=
  ⟨Box2.new w u v t, by simp, by simp⟩
theorem Var2.alloc {w : World} {b : Nat} {u v : Value} (h : Var2 w b u v) (o : Obj) : Var2 (w.alloc o) b u v := h.below ((Below.refl _ _).alloc (Nat.le_refl _) o)
theorem Var2.kept {w w' : World} {b : Nat} {u v : Value} {row : Option Nat} (h : Var2 w b u v) (hg : w.grownBy w' row) (hne : some b ≠ row) : Var2 w' b u v :=
  ⟨h.1.kept hg hne, (World.frozen?_of_block (w := w) (a := ⟨b, 0, none⟩) (hg.block b h.1.1 hne)).trans h.2.1, (World.frozen?_of_block (w := w) (a := ⟨b, 1, none⟩) (hg.block b h.1.1 hne)).trans h.2.2⟩
theorem Var2.set {w : World} {b : Nat} {u v : Value} (h : Var2 w b u v) (u' v' : Value) : Var2 ((w.setCell ⟨b, 0, none⟩ u').setCell ⟨b, 1, none⟩ v') b u' v' := by
  refine ⟨⟨by simpa using h.1.1, ?_, ?_⟩, by simpa using h.2.1, by simpa using h.2.2⟩
  · rw [World.cell?_setCell_other _ _ _ _ (by simp), World.cell?_setCell_same _ _ _ h.1.2.1]
  · rw [World.cell?_setCell_same _ _ _ (u := v) (by rw [World.cell?_setCell_other _ _ _ _ (by simp)]; exact h.1.2.2)]
theorem grown_set (w : World) (p : Addr) (u : Value) : w.grownBy (w.setCell p u) (some p.block) :=
  ⟨rfl, rfl, rfl, by simp, fun k hk hn => Below.heap_setCell w p u k (fun e => hn (by rw [e]))⟩
theorem Var2.set1 {w : World} {b : Nat} {u v : Value} (h : Var2 w b u v) (v' : Value) : Var2 (w.setCell ⟨b, 1, none⟩ v') b u v' := by
  refine ⟨⟨by simpa using h.1.1, ?_, ?_⟩, by simpa using h.2.1, by simpa using h.2.2⟩
  · rw [World.cell?_setCell_other _ _ _ _ (by simp)]; exact h.1.2.1
  · rw [World.cell?_setCell_same _ _ _ h.1.2.2]
theorem Box2.set {w : World} {b : Nat} {u v : Value} (h : Box2 w b u v) {p : Addr} (x : Value) (hne : b ≠ p.block) : Box2 (w.setCell p x) b u v :=
  h.kept (grown_set w p x) (by simpa using hne)
theorem Var2.other {w : World} {b : Nat} {u v : Value} (h : Var2 w b u v) {p : Addr} (x : Value) (hne : b ≠ p.block) : Var2 (w.setCell p x) b u v :=
  h.kept (grown_set w p x) (by simpa using hne)
theorem ne_own {v : Value} {b : Nat} (h : ∀ c, v.ownBlock = some c → c ≠ b) : some b ≠ v.ownBlock := fun e => h b e.symm rfl
theorem grown_alloc_set {w w1 : World} {r : Option Nat} {o : Obj} (h : (w.alloc o).grownBy w1 r) : w.grownBy w1 r :=
  ⟨h.os, h.tape, h.output, by have := h.size; simp at this; omega, fun k hk hn => (h.block k (by simp; omega) hn).trans (Below.heap_alloc w o k hk)⟩
theorem grown_trans {w w1 w2 : World} {r : Option Nat} (h1 : w.grownBy w1 r) (h2 : w1.grownBy w2 r) : w.grownBy w2 r :=
  ⟨h2.os.trans h1.os, h2.tape.trans h1.tape, h2.output.trans h1.output, Nat.le_trans h1.size h2.size, fun k hk hn => (h2.block k (by have := h1.size; omega) hn).trans (h1.block k hk hn)⟩
theorem OwnI.nil (w : World) (B : Nat) : OwnI w B (.slice none 0 0) [] := World.ownsRow_nil _ _ _ _
theorem below_of_grown {w w' : World} {v : Value} {B : Nat} (hg : w.grownBy w' v.ownBlock) (hB : ∀ b, v.ownBlock = some b → B ≤ b) (hs : B ≤ w.heap.size) : Below B w w' :=
  ⟨hg.os, hg.tape, hg.output, hg.size, fun k hk => hg.block k (by omega) (fun e => by have := hB k e.symm; omega)⟩

theorem szIntervalS_any (a : Option Addr) (n cap : Nat) (l : Int) (w : World) (h0 : 0 ≤ l) (h1 : l ≤ 1048576) (hn : n ≤ 9223372036854775807) :
    Calls Try.prog 14 #[.slice a n cap, .int .i64 l] w fun e w' => e = .returned (.int .i64 (if l - n < 0 then -1 else l - n)) ∧ w = w' := by
  by_cases h : l - n < 0
  · go_enter Try.func14, Try.ntmps14
    go_wp2
    go_ret
    exact ⟨ret_int (by simp [h]), rfl⟩
  · go_enter Try.func14, Try.ntmps14
    go_wp2
    go_ret
    exact ⟨ret_int (by first | rfl | rw [if_neg (by omega)]), rfl⟩
theorem szIntervalS_ok {a : Option Addr} {n cap : Nat} {l : Int} {w : World} (h1 : l ≤ 1048576) (h : n ≤ l) :
    Calls Try.prog 14 #[.slice a n cap, .int .i64 l] w fun e w' => e = .returned (.int .i64 (l - n)) ∧ w = w' :=
  (szIntervalS_any a n cap l w (by omega) h1 (by omega)).mono (fun e w' hh => ⟨by rw [hh.1, if_neg (by omega)], hh.2⟩)
theorem szIntervalS_no {a : Option Addr} {n cap : Nat} {l : Int} {w : World} (h0 : 0 ≤ l) (h1 : l ≤ 1048576) (h : l < n) (hl : n ≤ 9223372036854775807) :
    Calls Try.prog 14 #[.slice a n cap, .int .i64 l] w fun e w' => e = .returned (.int .i64 (-1)) ∧ w = w' :=
  (szIntervalS_any a n cap l w h0 h1 hl).mono (fun e w' hh => ⟨by rw [hh.1, if_pos (by omega)], hh.2⟩)

theorem OwnI.capLe {w : World} {B n cap : Nat} {a : Option Addr} {xs : List Int} (h : OwnI w B (.slice a n cap) xs) : n ≤ cap := by
  rcases h.2 with ⟨e, _⟩ | ⟨g, cap', cur, e, _, _, hc, _⟩
  · simp only [Value.slice.injEq] at e
    omega
  · simp only [Value.slice.injEq] at e
    omega
theorem Rd.take {w : World} {a : Option Addr} {xs : List Int} (h : Rd w a xs) (k : Nat) : Rd w a (xs.take k) :=
  ⟨Nat.le_trans (by rw [List.length_take]; exact Nat.min_le_right _ _) h.len, fun j hj => by
    have hj' : j < xs.length ∧ j < k := by rw [List.length_take] at hj; omega
    obtain ⟨b, off, e, hl, hc⟩ := h.cell j hj'.1
    refine ⟨b, off, e, hl, hc.trans ?_⟩
    simp [nth, List.getD_eq_getElem?_getD, List.getElem?_take, hj'.2]⟩

theorem infoIv : (Try.prog.info? 49).map (fun i => (i.zero, i.size, i.bytes)) = some (some (.agg #[.int .i64 0, .int .i64 0]), 2, 16) := by kernel_rfl
/-- a slice value that owns the row of these pairs, laid flat, in a block from B on -/
def OwnV (w : World) (B : Nat) (v : Value) (n : Nat) (cs : List Int) : Prop := w.ownsRow B 49 2 v n (cs.map (Value.int .i64))
theorem OwnV.len {w : World} {B n : Nat} {v : Value} {cs : List Int} (h : OwnV w B v n cs) : cs.length = n * 2 := by simpa using h.1
theorem OwnV.form {w : World} {B n : Nat} {v : Value} {cs : List Int} (h : OwnV w B v n cs) : ∃ a cap, v = .slice a n cap := by
  rcases h.2 with ⟨rfl, h0⟩ | ⟨g, cap, cur, rfl, _⟩
  · exact ⟨none, 0, by rw [h0]⟩
  · exact ⟨_, _, rfl⟩
theorem OwnV.rd {w : World} {B n m cap : Nat} {a : Option Addr} {cs : List Int} (h : OwnV w B (.slice a m cap) n cs) (hn0 : n ≤ 1048576) : Rd w a cs := by
  have hl := h.len
  rcases h.2 with ⟨e, h0⟩ | ⟨g, cap', cur, e, hb, hg, hn, hm, hs, ht⟩
  · exact ⟨by omega, fun k hk => by omega⟩
  · simp only [Value.slice.injEq] at e
    obtain ⟨rfl, rfl, rfl⟩ := e
    refine ⟨by omega, fun k hk => ⟨g, 0, rfl, (Array.getElem?_eq_some_iff.1 hg).1, ?_⟩⟩
    have := World.ownsRow.cellAt h k (by omega)
    rw [Nat.zero_add, this]
    simp [nth, hk]
theorem OwnV.kept {w w' : World} {B n : Nat} {v : Value} {cs : List Int} {row : Option Nat} (h : OwnV w B v n cs) (hg : w.grownBy w' row) (hne : v.ownBlock = none ∨ v.ownBlock ≠ row) : OwnV w' B v n cs := World.ownsRow.kept h hg hne
theorem OwnV.mono {w : World} {B B' n : Nat} {v : Value} {cs : List Int} (h : OwnV w B v n cs) (hB : B' ≤ B) : OwnV w B' v n cs := by
  refine ⟨h.1, ?_⟩
  rcases h.2 with hn | ⟨g, cap, cur, e, hb, rest⟩
  · exact .inl hn
  · exact .inr ⟨g, cap, cur, e, by omega, rest⟩
theorem OwnV.below {w w' : World} {B B' n : Nat} {v : Value} {cs : List Int} (h : OwnV w B v n cs) (hb : Below B' w w') (hB : w.heap.size ≤ B') : OwnV w' B v n cs := by
  refine ⟨h.1, ?_⟩
  rcases h.2 with hn | ⟨g, cap, cur, e, hb', hg, rest⟩
  · exact .inl hn
  · refine .inr ⟨g, cap, cur, e, hb', ?_, rest⟩
    rw [hb.block g (by have := (Array.getElem?_eq_some_iff.1 hg).1; omega)]
    exact hg
theorem OwnV.lt {w : World} {B n : Nat} {v : Value} {cs : List Int} (h : OwnV w B v n cs) : ∀ b, v.ownBlock = some b → B ≤ b ∧ b < w.heap.size := World.ownsRow.lt h
theorem OwnV.cut {w : World} {B n : Nat} {v : Value} {cs : List Int} (h : OwnV w B v n cs) {U : Nat} (hU : w.heap.size ≤ U) : ∀ b, v.ownBlock = some b → B ≤ b ∧ b < U := fun b e => ⟨(h.lt b e).1, Nat.lt_of_lt_of_le (h.lt b e).2 hU⟩
theorem OwnV.nil (w : World) (B : Nat) : OwnV w B (.slice none 0 0) 0 [] := World.ownsRow_nil _ _ _ _
theorem OwnV.alloc {w : World} {B n : Nat} {v : Value} {cs : List Int} (h : OwnV w B v n cs) (o : Obj) : OwnV (w.alloc o) B v n cs := h.below ((Below.refl _ _).alloc (Nat.le_refl _) o) (Nat.le_refl _)
theorem OwnV.capLe {w : World} {B n m cap : Nat} {a : Option Addr} {cs : List Int} (h : OwnV w B (.slice a m cap) n cs) : m ≤ cap := by
  rcases h.2 with ⟨e, _⟩ | ⟨g, cap', cur, e, _, _, hc, _⟩
  · simp only [Value.slice.injEq] at e
    omega
  · simp only [Value.slice.injEq] at e
    omega
theorem set_ints' (xs : List Int) (i : Nat) (x : Int) : (xs.map (Value.int .i64)).set i (.int .i64 x) = (xs.set i x).map (Value.int .i64) := by
  rw [List.map_set]
theorem OwnV.put {w : World} {B g n cap : Nat} {cs : List Int} (h : OwnV w B (.slice (some ⟨g, 0, none⟩) n cap) n cs) (i : Nat) (x : Int) :
    OwnV (w.setCell ⟨g, i, none⟩ (.int .i64 x)) B (.slice (some ⟨g, 0, none⟩) n cap) n (cs.set i x) ∧ w.grownBy (w.setCell ⟨g, i, none⟩ (.int .i64 x)) (some g) := by
  have hst := World.ownsRow.stored h i (.int .i64 x)
  rw [set_ints'] at hst
  exact hst
theorem OwnV.at' {w : World} {B g n cap : Nat} {cs : List Int} (h : OwnV w B (.slice (some ⟨g, 0, none⟩) n cap) n cs) {i : Nat} (hi : i < cs.length) :
    w.cell? ⟨g, i, none⟩ = some (.int .i64 (nth cs i)) ∧ w.frozen? ⟨g, i, none⟩ = false := by
  have hl := h.len
  refine ⟨?_, World.ownsRow.frozenAt h i⟩
  rw [World.ownsRow.cellAt h i (by omega)]
  simp [nth, hi]
theorem OwnV.head {w : World} {B n cap : Nat} {a : Option Addr} {cs : List Int} (h : OwnV w B (.slice a n cap) n cs) (hp : 0 < n) : ∃ g, a = some ⟨g, 0, none⟩ ∧ B ≤ g ∧ g < w.heap.size := by
  rcases h.2 with ⟨e, h0⟩ | ⟨g, c, cur, e, hb, hg, _⟩
  · omega
  · simp only [Value.slice.injEq] at e
    exact ⟨g, e.1, hb, (Array.getElem?_eq_some_iff.1 hg).1⟩
/-- the two ends of the pair k -/
def lft (cs : List Int) (k : Nat) : Int := nth cs (k * 2)
def rgt (cs : List Int) (k : Nat) : Int := nth cs (k * 2 + 1)
theorem Rd.pair {w : World} {a : Option Addr} {cs : List Int} (h : Rd w a cs) {k n : Nat} (hl : cs.length = n * 2) (hk : k < n) :
    ∃ b off, a = some ⟨b, off, none⟩ ∧ b < w.heap.size ∧ w.cell? ⟨b, off + k * 2, none⟩ = some (.int .i64 (lft cs k)) ∧ w.cell? ⟨b, off + k * 2 + 1, none⟩ = some (.int .i64 (rgt cs k)) := by
  obtain ⟨b, off, e, hb, hc⟩ := h.cell (k * 2) (by omega)
  obtain ⟨b', off', e', hb', hc'⟩ := h.cell (k * 2 + 1) (by omega)
  rw [e] at e'
  simp only [Option.some.injEq, Addr.mk.injEq, and_true] at e'
  obtain ⟨rfl, rfl⟩ := e'
  exact ⟨b, off, e, hb, hc, by rw [Nat.add_assoc]; exact hc'⟩

/-- the list of f 0, .., f (k - 1) -/
def fmap (f : Nat → Int) (k : Nat) : List Int := (List.range k).map f
theorem fmap_len (f : Nat → Int) (k : Nat) : (fmap f k).length = k := by simp [fmap]
theorem fmap_nth (f : Nat → Int) {k i : Nat} (h : i < k) : nth (fmap f k) i = f i := by simp [nth, fmap, h]
theorem fmap_succ (f : Nat → Int) (k : Nat) : fmap f (k+1) = fmap f k ++ [f k] := by simp [fmap, List.range_succ]
/-- one store more into a row that was made -/
theorem fill_step (f : Nat → Int) (m k : Nat) (h : k < m) :
    ((fmap f k ++ List.replicate (m - k) (0:Int)).map (Value.int .i64)).set k (.int .i64 (f k)) = (fmap f (k+1) ++ List.replicate (m - (k+1)) (0:Int)).map (Value.int .i64) := by
  apply List.ext_getElem?
  intro j
  rw [List.getElem?_set]
  by_cases hj : k = j
  · subst hj
    rw [if_pos rfl, if_pos (by simp [fmap_len]; omega), List.getElem?_map, List.getElem?_append_left (by rw [fmap_len]; omega)]
    simp [fmap]
  · simp only [hj, if_false, List.getElem?_map, List.getElem?_append, fmap_len, List.getElem?_replicate]
    by_cases h1 : j < k
    · have h2 : j < k + 1 := by omega
      simp [h1, h2, fmap]
    · have h2 : ¬ j < k + 1 := by omega
      have h3 : j - k < m - k ↔ j - (k+1) < m - (k+1) := by omega
      simp [h1, h2, h3]
theorem fill_end (f : Nat → Int) (m : Nat) : fmap f m ++ List.replicate (m - m) (0:Int) = fmap f m := by simp
/-- the row that a make of m integers has made -/
theorem made_ints {w1 : World} {B : Nat} {v : Value} {m : Nat} (f : Nat → Int) (h : w1.ownsRow B 3 1 v m (madeCells (Value.int .i64 0).cells (m * 1)).toList) :
    w1.ownsRow B 3 1 v m ((fmap f 0 ++ List.replicate (m - 0) (0:Int)).map (Value.int .i64)) := by
  simpa [Value.cells, toList_madeCells_one, fmap] using h

theorem infoZ : (Value.agg #[.int .i64 0, .int .i64 0]).cells = #[.int .i64 0, .int .i64 0] := rfl
/-- the pairs of which the first k have been copied -/
def cpV (cs : List Int) (n k : Nat) : List Int := cs.take (k * 2) ++ List.replicate (n * 2 - k * 2) 0
theorem cpV_len {cs : List Int} {n k : Nat} (h : cs.length = n * 2) (hk : k ≤ n) : (cpV cs n k).length = n * 2 := by
  simp [cpV]; omega
theorem cpV_end {cs : List Int} {n : Nat} (h : cs.length = n * 2) : cpV cs n n = cs := by
  simp [cpV, List.take_of_length_le, h]
theorem cpV_nth {cs : List Int} {n k j : Nat} (h : cs.length = n * 2) (hj : j < n * 2) (hk : k ≤ n) : nth (cpV cs n k) j = if j < k * 2 then nth cs j else 0 := by
  simp only [nth, cpV, List.getD_eq_getElem?_getD, List.getElem?_append, List.length_take, List.getElem?_take, List.getElem?_replicate]
  by_cases h1 : j < k * 2
  · have h2 : j < min (k * 2) cs.length := by omega
    simp [h1, h2]
  · have h2 : ¬ j < min (k * 2) cs.length := by omega
    have h3 : j - min (k * 2) cs.length < n * 2 - k * 2 := by omega
    simp [h1, h2, h3]
theorem nth_ext' {xs ys : List Int} (hl : xs.length = ys.length) (h : ∀ i, i < xs.length → nth xs i = nth ys i) : xs = ys := by
  apply List.ext_getElem hl
  intro i h1 h2
  have := h i h1
  rwa [nth_get xs i h1, nth_get ys i h2] at this
theorem nth_set' {xs : List Int} {i j : Nat} {x : Int} (hi : i < xs.length) : nth (xs.set i x) j = if i = j then x else nth xs j := by
  simp only [nth, List.getD_eq_getElem?_getD, List.getElem?_set]
  by_cases h : i = j
  · subst h; simp [hi]
  · simp [h]
theorem cpV_next {cs : List Int} {n k : Nat} (h : cs.length = n * 2) (hk : k < n) : ((cpV cs n k).set (k * 2) (lft cs k)).set (k * 2 + 1) (rgt cs k) = cpV cs n (k+1) := by
  have h1 := cpV_len h (Nat.le_of_lt hk)
  apply nth_ext' (by rw [List.length_set, List.length_set, h1, cpV_len h (by omega)])
  intro i hi
  rw [List.length_set, List.length_set, h1] at hi
  rw [nth_set' (by rw [List.length_set, h1]; omega), nth_set' (by rw [h1]; omega), cpV_nth h hi (by omega), cpV_nth h hi (by omega)]
  by_cases e1 : k * 2 + 1 = i
  · subst e1; rw [if_pos rfl, if_pos (by omega)]; rfl
  · rw [if_neg e1]
    by_cases e2 : k * 2 = i
    · subst e2; rw [if_pos rfl, if_pos (by omega)]; rfl
    · rw [if_neg e2]
      by_cases e3 : i < k * 2
      · rw [if_pos e3, if_pos (by omega)]
      · rw [if_neg e3, if_neg (by omega)]
theorem made_pairs {w1 : World} {B : Nat} {v : Value} {n : Nat} (cs : List Int) (h : w1.ownsRow B 49 2 v n (madeCells (Value.agg #[.int .i64 0, .int .i64 0]).cells (n * 2)).toList) : OwnV w1 B v n (cpV cs n 0) := by
  have hl := h.1
  unfold OwnV
  have e : (madeCells (Value.agg #[.int .i64 0, .int .i64 0]).cells (n * 2)).toList = (cpV cs n 0).map (Value.int .i64) := by
    apply List.ext_getElem?
    intro j
    have h0 : j % 2 = 0 ∨ j % 2 = 1 := by omega
    simp only [cpV, Nat.zero_mul, List.take_zero, List.nil_append, Nat.sub_zero, List.map_replicate, List.getElem?_replicate]
    by_cases hj : j < n * 2
    · rw [if_pos hj]
      simp only [madeCells, infoZ, Array.toList_map, Array.toList_range, List.getElem?_map, List.getElem?_range hj, Option.map_some]
      rcases h0 with e | e <;> simp [e]
    · rw [if_neg hj, List.getElem?_eq_none]
      omega
  rw [← e]
  exact h

theorem toInterval_any (x y : Int) (w : World) :
    Calls Try.prog 31 #[.agg #[.int .i64 x, .int .i64 y]] w fun e w' => e = .returned (.agg #[.int .i64 x, .int .i64 y]) ∧ Below w.heap.size w w' := by
  go_enter Try.func31, Try.ntmps31
  go_wp2
  refine bodyPost_ret (v := .agg #[.int .i64 x, .int .i64 y]) (by simp [results, Try.results31, go_sem]) rfl ⟨rfl, ?_⟩
  exact (by repeat (first | exact Below.refl _ _ | assumption | refine Below.alloc ?_ (by first | exact Nat.le_refl _ | (simp only [World.size_alloc, World.size_setCell, World.size_drew]; omega) | omega) _ | refine Below.setCell ?_ (by first | exact Nat.le_refl _ | (simp only [World.size_alloc, World.size_setCell, World.size_drew]; omega) | omega) _ | refine Below.drew ?_))

theorem toIntervalS_any (a : Option Addr) (cs : List Int) (n cap : Nat) (w : World) (hx : Rd w a cs) (hl : cs.length = n * 2) (hn : n ≤ 1048576) :
    Calls Try.prog 17 #[.slice a n cap] w fun e w' => ∃ a' cap', e = .returned (.slice a' n cap') ∧ OwnV w' w.heap.size (.slice a' n cap') n cs ∧ Below w.heap.size w w' := by
  obtain ⟨i0, hi, hz0, hz1, hz2⟩ := info_parts infoIv
  have HL := Lib.hid hl
  clear hl
  go_enter Try.func17, Try.ntmps17
  go_wp2_with (at_make; refine wpList_make_full _ rfl (.tmp 6) (.tmp 6) 30 rfl w.heap.size 49 i0 (.agg #[.int .i64 0, .int .i64 0]) 2 Try.underlying30 hi hz0 hz1 .i64 .i64 _ _ n rfl rfl rfl rfl (by rw [hz2]; omega) (by unfold maxLen; omega) (Nat.le_refl _) ?_; intro w1 hown hgrow)
  have hb0 : Below w.heap.size w w1 := (Below.refl _ _).grown hgrow (Nat.le_refl _) (fun k h => by cases h)
  have hown0 := made_pairs cs hown
  clear hown hgrow
  go_wp2_with fail
  go_loopw [4] (fun i wr => ∃ k : Nat, k ≤ n ∧ i = .int .i64 k ∧ OwnV wr w.heap.size (.slice (some ⟨w.heap.size, 0, none⟩) n n) n (cpV cs n k) ∧ Below w.heap.size w wr) (fun i _ => n - (intOf i).toNat)
  case atStart => exact ⟨0, Nat.zero_le _, rfl, hown0, hb0⟩
  case round =>
    obtain ⟨k, hk, rfl, hown, hb⟩ := hrel
    by_cases hlt : k < n
    · obtain ⟨b, off, rfl, hbl, hc1, hc2⟩ := (hx.below hb).pair HL.out hlt
      go_wp2_with fail
      refine (toInterval_any _ _ _).mono ?_
      rintro e w2 ⟨rfl, hb2⟩
      have o2 := hown.below hb2 (Nat.le_refl _)
      have bw2 := hb.trans (hb2.mono hb.size)
      have hpl := cpV_len HL.out hk
      have ⟨c1, f1⟩ := o2.at' (i := k * 2) (by omega)
      have ⟨c2, f2⟩ := o2.at' (i := k * 2 + 1) (by omega)
      have p1 := o2.put (k * 2) (lft cs k)
      have p2 := p1.1.put (k * 2 + 1) (rgt cs k)
      rw [cpV_next HL.out hlt] at p2
      have P2 := Lib.hid p2.1
      have bw3 := (bw2.setCell (p := ⟨w.heap.size, k * 2, none⟩) (Nat.le_refl _) (.int .i64 (lft cs k))).setCell (p := ⟨w.heap.size, k * 2 + 1, none⟩) (Nat.le_refl _) (.int .i64 (rgt cs k))
      clear hc1 hc2 hown hb hb2 o2 p1 p2 hpl
      go_wp2_with fail
      go_roundw
      case rel => exact ⟨k + 1, by omega, by go_num, P2.out, bw3⟩
      case measure => simp [intOf]; omega
    · obtain rfl : k = n := by omega
      rw [cpV_end HL.out] at hown
      go_wp2_with fail
      go_ret
      exact ⟨_, _, rfl, hown, hb⟩

def eqV (x y x' y' : Int) : Bool := decide (x = x') && decide (y = y')
theorem eqInterval_any (x y x' y' : Int) (w : World) :
    Calls Try.prog 59 #[.agg #[.int .i64 x, .int .i64 y], .agg #[.int .i64 x', .int .i64 y']] w fun e w' => e = .returned (.bool (eqV x y x' y')) ∧ Below w.heap.size w w' := by
  by_cases hx : x = x'
  · by_cases hy : y = y'
    · have H : Hid (eqV x y x' y' = true) := by simp [Hid, eqV, hx, hy]
      have h1 : (x != x') = false := by simp [hx]
      have h2 : (y != y') = false := by simp [hy]
      clear hx hy
      go_enter Try.func59, Try.ntmps59
      go_wp2
      go_ret
      exact ⟨ret_bool H.out.symm, (by repeat (first | exact Below.refl _ _ | assumption | refine Below.alloc ?_ (by first | exact Nat.le_refl _ | (simp only [World.size_alloc, World.size_setCell, World.size_drew]; omega) | omega) _ | refine Below.setCell ?_ (by first | exact Nat.le_refl _ | (simp only [World.size_alloc, World.size_setCell, World.size_drew]; omega) | omega) _ | refine Below.drew ?_))⟩
    · have H : Hid (eqV x y x' y' = false) := by simp [Hid, eqV, hy]
      have h1 : (x != x') = false := by simp [hx]
      have h2 : (y != y') = true := by simp [hy]
      clear hx hy
      go_enter Try.func59, Try.ntmps59
      go_wp2
      go_ret
      exact ⟨ret_bool H.out.symm, (by repeat (first | exact Below.refl _ _ | assumption | refine Below.alloc ?_ (by first | exact Nat.le_refl _ | (simp only [World.size_alloc, World.size_setCell, World.size_drew]; omega) | omega) _ | refine Below.setCell ?_ (by first | exact Nat.le_refl _ | (simp only [World.size_alloc, World.size_setCell, World.size_drew]; omega) | omega) _ | refine Below.drew ?_))⟩
  · have H : Hid (eqV x y x' y' = false) := by simp [Hid, eqV, hx]
    have h1 : (x != x') = true := by simp [hx]
    clear hx
    go_enter Try.func59, Try.ntmps59
    go_wp2
    go_ret
    exact ⟨ret_bool H.out.symm, (by repeat (first | exact Below.refl _ _ | assumption | refine Below.alloc ?_ (by first | exact Nat.le_refl _ | (simp only [World.size_alloc, World.size_setCell, World.size_drew]; omega) | omega) _ | refine Below.setCell ?_ (by first | exact Nat.le_refl _ | (simp only [World.size_alloc, World.size_setCell, World.size_drew]; omega) | omega) _ | refine Below.drew ?_))⟩

def eqL (xs ys : List Int) : Bool := decide (xs = ys)
theorem eqL_self (xs : List Int) : eqL xs xs = true := by simp [eqL]

theorem eqIntS_any (a b : Option Addr) (xs ys : List Int) (ca cb : Nat) (w : World) (hx : Rd w a xs) (hy : Rd w b ys) :
    Calls Try.prog 26 #[.slice a xs.length ca, .slice b ys.length cb] w fun e w' => e = .returned (.bool (eqL xs ys)) ∧ Below w.heap.size w w' := by
  have hlx := hx.len
  have hly := hy.len
  by_cases hl : xs.length = ys.length
  · have hl' : ((xs.length : Int) != (ys.length : Int)) = false := by simp [hl]
    go_enter Try.func26, Try.ntmps26
    have HL := Lib.hid hl
    clear hl
    go_wp2_with fail
    go_loopw [5] (fun i wr => ∃ k : Nat, k ≤ xs.length ∧ i = .int .i64 k ∧ xs.take k = ys.take k ∧ Below w.heap.size w wr) (fun i _ => xs.length - (intOf i).toNat)
    case atStart => exact ⟨0, Nat.zero_le _, rfl, rfl, Below.refl _ _⟩
    case round =>
      obtain ⟨k, hk, rfl, htk, hb⟩ := hrel
      have HT := Lib.hid htk
      clear htk
      by_cases hlt : k < xs.length
      · have hlt' : k < ys.length := by rw [← HL.out]; exact hlt
        obtain ⟨b1, o1, rfl, hb1, hc1⟩ := (hx.below hb).cell k hlt
        obtain ⟨b2, o2, rfl, hb2, hc2⟩ := (hy.below hb).cell k hlt'
        by_cases he : nth xs k = nth ys k
        · have he' : (nth xs k != nth ys k) = false := by simp [he]
          have HE := Lib.hid he
          clear he
          go_wp2_with fail
          go_quiet (fail)
          go_wp2_with fail
          go_roundw
          case rel =>
            refine ⟨k + 1, by omega, by go_num, ?_, by exact hb.trans (Joins.below_draws _ _ _)⟩
            rw [List.take_succ_eq_append_getElem hlt, List.take_succ_eq_append_getElem hlt', HT.out, ← nth_get, ← nth_get, HE.out]
          case measure => simp [intOf]; omega
        · have he' : (nth xs k != nth ys k) = true := by simp [he]
          have hne : eqL xs ys = false := by
            simp only [eqL, decide_eq_false_iff_not]
            intro e
            subst e
            exact he rfl
          have HN := Lib.hid hne
          clear he hne
          go_wp2_with fail
          go_quiet (fail)
          go_wp2_with fail
          go_ret
          exact ⟨ret_bool HN.out.symm, hb.trans (Joins.below_draws _ _ _)⟩
      · go_wp2_with fail
        go_ret
        refine ⟨ret_bool ?_, hb⟩
        have h1 := HT.out
        rw [List.take_of_length_le (by omega), List.take_of_length_le (by rw [← HL.out]; omega)] at h1
        simp [eqL, h1]
  · have hl' : ((xs.length : Int) != (ys.length : Int)) = true := by simp; omega
    have hne : eqL xs ys = false := by
      simp only [eqL, decide_eq_false_iff_not]
      intro e
      exact hl (by rw [e])
    have HN := Lib.hid hne
    clear hl hne
    go_enter Try.func26, Try.ntmps26
    go_wp2_with fail
    go_ret
    exact ⟨ret_bool HN.out.symm, Below.refl _ _⟩

theorem eqV_at {cs ds : List Int} {k : Nat} (h : cs.take (k * 2) = ds.take (k * 2)) (h1 : k * 2 + 1 < cs.length) (h2 : k * 2 + 1 < ds.length) (he : eqV (lft cs k) (rgt cs k) (lft ds k) (rgt ds k) = true) : cs.take ((k+1) * 2) = ds.take ((k+1) * 2) := by
  simp only [eqV, Bool.and_eq_true, decide_eq_true_eq] at he
  have he1 : nth cs (k * 2) = nth ds (k * 2) := he.1
  have he2 : nth cs (k * 2 + 1) = nth ds (k * 2 + 1) := he.2
  rw [show (k+1) * 2 = k * 2 + 1 + 1 from by omega, List.take_succ_eq_append_getElem h1, List.take_succ_eq_append_getElem h2, List.take_succ_eq_append_getElem (by omega), List.take_succ_eq_append_getElem (by omega), h, ← nth_get, ← nth_get, ← nth_get, ← nth_get, he1, he2]
theorem eqV_no {cs ds : List Int} {k : Nat} (he : eqV (lft cs k) (rgt cs k) (lft ds k) (rgt ds k) = false) : eqL cs ds = false := by
  rw [eqL, decide_eq_false_iff_not]
  rintro rfl
  simp [eqV] at he
theorem eqIntervalS_any (a b : Option Addr) (cs ds : List Int) (n m ca cb : Nat) (w : World) (hx : Rd w a cs) (hy : Rd w b ds) (hn : cs.length = n * 2) (hm : ds.length = m * 2) (hn0 : n ≤ 1048576) (hm0 : m ≤ 1048576) :
    Calls Try.prog 20 #[.slice a n ca, .slice b m cb] w fun e w' => e = .returned (.bool (eqL cs ds)) ∧ Below w.heap.size w w' := by
  by_cases hl : n = m
  · have hl' : ((n : Int) != (m : Int)) = false := by simp [hl]
    subst hl
    have HN := Lib.hid hn
    have HM := Lib.hid hm
    clear hn hm
    go_enter Try.func20, Try.ntmps20
    go_wp2_with fail
    go_loopw [5] (fun i wr => ∃ k : Nat, k ≤ n ∧ i = .int .i64 k ∧ cs.take (k * 2) = ds.take (k * 2) ∧ Below w.heap.size w wr) (fun i _ => n - (intOf i).toNat)
    case atStart => exact ⟨0, Nat.zero_le _, rfl, rfl, Below.refl _ _⟩
    case round =>
      obtain ⟨k, hk, rfl, htk, hb⟩ := hrel
      have HT := Lib.hid htk
      clear htk
      by_cases hlt : k < n
      · obtain ⟨b1, o1, rfl, hb1, hc1, hc1'⟩ := (hx.below hb).pair HN.out hlt
        obtain ⟨b2, o2, rfl, hb2, hc2, hc2'⟩ := (hy.below hb).pair HM.out hlt
        cases he : eqV (lft cs k) (rgt cs k) (lft ds k) (rgt ds k)
        · have HF := Lib.hid (eqV_no he)
          go_wp2_with fail
          go_region_held3 (fun w' => w'.cell? ⟨b1, o1 + k * 2, none⟩ = some (.int .i64 (lft cs k)) ∧ w'.cell? ⟨b1, o1 + k * 2 + 1, none⟩ = some (.int .i64 (rgt cs k)) ∧ w'.cell? ⟨b2, o2 + k * 2, none⟩ = some (.int .i64 (lft ds k)) ∧ w'.cell? ⟨b2, o2 + k * 2 + 1, none⟩ = some (.int .i64 (rgt ds k)))
            (first | exact ⟨(ht3.cell (p := ⟨b1, o1 + k * 2, none⟩) hb1).trans hc1, (ht3.cell (p := ⟨b1, o1 + k * 2 + 1, none⟩) hb1).trans hc1', (ht3.cell (p := ⟨b2, o2 + k * 2, none⟩) hb2).trans hc2, (ht3.cell (p := ⟨b2, o2 + k * 2 + 1, none⟩) hb2).trans hc2'⟩ | go_keep)
            (first | (go_at_call 59; refine (eqInterval_any _ _ _ _ _).mono ?_; rw [he]; rintro e w3 ⟨rfl, hb3⟩; have ht3 : Below wr.heap.size wr w3 := (Joins.below_draws _ _ _).trans hb3))
          go_wp2_with fail
          go_ret
          exact ⟨ret_bool HF.out.symm, hb.trans (ht3.mono hb.size)⟩
        · have HE := Lib.hid (eqV_at HT.out (by have := HN.out; omega) (by have := HM.out; omega) he)
          go_wp2_with fail
          go_region_held3 (fun w' => w'.cell? ⟨b1, o1 + k * 2, none⟩ = some (.int .i64 (lft cs k)) ∧ w'.cell? ⟨b1, o1 + k * 2 + 1, none⟩ = some (.int .i64 (rgt cs k)) ∧ w'.cell? ⟨b2, o2 + k * 2, none⟩ = some (.int .i64 (lft ds k)) ∧ w'.cell? ⟨b2, o2 + k * 2 + 1, none⟩ = some (.int .i64 (rgt ds k)))
            (first | exact ⟨(ht3.cell (p := ⟨b1, o1 + k * 2, none⟩) hb1).trans hc1, (ht3.cell (p := ⟨b1, o1 + k * 2 + 1, none⟩) hb1).trans hc1', (ht3.cell (p := ⟨b2, o2 + k * 2, none⟩) hb2).trans hc2, (ht3.cell (p := ⟨b2, o2 + k * 2 + 1, none⟩) hb2).trans hc2'⟩ | go_keep)
            (first | (go_at_call 59; refine (eqInterval_any _ _ _ _ _).mono ?_; rw [he]; rintro e w3 ⟨rfl, hb3⟩; have ht3 : Below wr.heap.size wr w3 := (Joins.below_draws _ _ _).trans hb3))
          go_wp2_with fail
          go_roundw
          case rel => exact ⟨k + 1, by omega, by go_num, HE.out, hb.trans (ht3.mono hb.size)⟩
          case measure => simp [intOf]; omega
      · obtain rfl : k = n := by omega
        go_wp2_with fail
        go_ret
        refine ⟨ret_bool ?_, hb⟩
        have h1 := HT.out
        have h2 := HN.out
        have h3 := HM.out
        rw [List.take_of_length_le (by omega), List.take_of_length_le (by omega)] at h1
        simp [eqL, h1]
  · have hl' : ((n : Int) != (m : Int)) = true := by simp; omega
    have HF : Hid (eqL cs ds = false) := by
      rw [Hid, eqL, decide_eq_false_iff_not]
      rintro rfl
      omega
    clear hl hn hm
    go_enter Try.func20, Try.ntmps20
    go_wp2_with fail
    go_ret
    exact ⟨ret_bool HF.out.symm, Below.refl _ _⟩

def wrongB (x y : Int) : Bool := decide (x < -1000) || decide (y < x) || decide (1000 < y)
theorem wrongB_no {x y : Int} : wrongB x y = false ↔ -1000 ≤ x ∧ x ≤ y ∧ y ≤ 1000 := by
  simp [wrongB]; omega
/-- are these pairs intervals? -/
def goodV (cs : List Int) (n : Nat) : Bool := decide (n ≤ 10) && (List.range n).all (fun k => !wrongB (lft cs k) (rgt cs k))
theorem goodV_iff {cs : List Int} {n : Nat} : goodV cs n = true ↔ n ≤ 10 ∧ ∀ k, k < n → wrongB (lft cs k) (rgt cs k) = false := by
  simp [goodV]
theorem goodV_no {cs : List Int} {n k : Nat} (hk : k < n) (h : wrongB (lft cs k) (rgt cs k) = true) : goodV cs n = false := by
  rw [← Bool.not_eq_true, goodV_iff]
  rintro ⟨_, h2⟩
  rw [h2 k hk] at h
  cases h
theorem goodV_big {cs : List Int} {n : Nat} (h : 10 < n) : goodV cs n = false := by
  rw [← Bool.not_eq_true, goodV_iff]
  rintro ⟨h1, _⟩
  omega

/-- the flat list of the pairs f k, g k -/
def prs (f g : Nat → Int) (n : Nat) : List Int := fmap (fun j => if j % 2 = 0 then f (j / 2) else g (j / 2)) (n * 2)
theorem prs_len (f g : Nat → Int) (n : Nat) : (prs f g n).length = n * 2 := fmap_len _ _
theorem prs_nth (f g : Nat → Int) {n j : Nat} (h : j < n * 2) : nth (prs f g n) j = if j % 2 = 0 then f (j / 2) else g (j / 2) := fmap_nth _ h
theorem prs_lft (f g : Nat → Int) {n k : Nat} (h : k < n) : lft (prs f g n) k = f k := by
  rw [lft, prs_nth f g (by omega), if_pos (by omega)]; congr 1; omega
theorem prs_rgt (f g : Nat → Int) {n k : Nat} (h : k < n) : rgt (prs f g n) k = g k := by
  rw [rgt, prs_nth f g (by omega), if_neg (by omega)]; congr 1; omega
theorem prs_succ (f g : Nat → Int) (k : Nat) : prs f g (k+1) = prs f g k ++ [f k, g k] := by
  unfold prs
  rw [show (k+1) * 2 = k * 2 + 1 + 1 from by omega, fmap_succ, fmap_succ, List.append_assoc]
  congr 1
  rw [if_pos (by omega), if_neg (by omega)]
  rw [show k * 2 / 2 = k from by omega, show (k * 2 + 1) / 2 = k from by omega]
  rfl
/-- the row of n pairs of which k are filled -/
def rowP (f g : Nat → Int) (n k : Nat) : List Int := prs f g k ++ List.replicate (n * 2 - k * 2) 0
theorem rowP_len (f g : Nat → Int) {n k : Nat} (h : k ≤ n) : (rowP f g n k).length = n * 2 := by simp [rowP, prs_len]; omega
theorem rowP_end (f g : Nat → Int) (n : Nat) : rowP f g n n = prs f g n := by simp [rowP]
theorem rowP_nth (f g : Nat → Int) {n k j : Nat} (hk : k ≤ n) (hj : j < n * 2) : nth (rowP f g n k) j = if j < k * 2 then (if j % 2 = 0 then f (j / 2) else g (j / 2)) else 0 := by
  simp only [rowP, nth, List.getD_eq_getElem?_getD, List.getElem?_append, prs_len, List.getElem?_replicate]
  by_cases h1 : j < k * 2
  · rw [if_pos h1, if_pos h1]
    have := prs_nth f g h1
    rw [nth, List.getD_eq_getElem?_getD] at this
    exact this
  · rw [if_neg h1, if_neg h1, if_pos (by omega)]; rfl
theorem rowP_next (f g : Nat → Int) {n k : Nat} (hk : k < n) : ((rowP f g n k).set (k * 2) (f k)).set (k * 2 + 1) (g k) = rowP f g n (k+1) := by
  have h1 := rowP_len f g (Nat.le_of_lt hk)
  apply nth_ext' (by rw [List.length_set, List.length_set, h1, rowP_len f g (by omega)])
  intro i hi
  rw [List.length_set, List.length_set, h1] at hi
  rw [nth_set' (by rw [List.length_set, h1]; omega), nth_set' (by rw [h1]; omega), rowP_nth f g (by omega) hi, rowP_nth f g (by omega) hi]
  by_cases e1 : k * 2 + 1 = i
  · subst e1; rw [if_pos rfl, if_pos (show k * 2 + 1 < (k + 1) * 2 by omega), if_neg (show ¬ (k * 2 + 1) % 2 = 0 by omega)]; congr 1; omega
  · rw [if_neg e1]
    by_cases e2 : k * 2 = i
    · subst e2; rw [if_pos rfl, if_pos (show k * 2 < (k + 1) * 2 by omega), if_pos (show k * 2 % 2 = 0 by omega)]; congr 1; omega
    · rw [if_neg e2]
      by_cases e3 : i < k * 2
      · rw [if_pos e3, if_pos (show i < (k + 1) * 2 by omega)]
      · rw [if_neg e3, if_neg (show ¬ i < (k + 1) * 2 by omega)]
theorem made_rowP {w1 : World} {B : Nat} {v : Value} {n : Nat} (f g : Nat → Int) (h : w1.ownsRow B 49 2 v n (madeCells (Value.agg #[.int .i64 0, .int .i64 0]).cells (n * 2)).toList) : OwnV w1 B v n (rowP f g n 0) := by
  have h1 := made_pairs [] h
  have e : cpV [] n 0 = rowP f g n 0 := by simp [cpV, rowP, prs, fmap]
  rw [e] at h1
  exact h1
/-- what a call hands back that makes intervals -/
def GotV (w : World) (n : Nat) (cs : List Int) (ok : Bool) (e : Ending) (w' : World) : Prop :=
  ∃ a cap, e = .returned (.tuple #[.slice a n cap, .bool ok]) ∧ OwnV w' w.heap.size (.slice a n cap) n cs ∧ Below w.heap.size w w'
/-- the pair that stands in a new block of its own -/
theorem cell_two_new (w : World) (x y : Value) (t : TypeId) : ∀ j u, [x, y][j]? = some u → (w.alloc (.cells #[x, y] t)).cell? ((⟨w.heap.size, 0, none⟩ : Addr).add j) = some u := by
  intro j u hj
  match j, hj with
  | 0, hj => simp at hj; subst hj; simp [Addr.add]
  | 1, hj => simp at hj; subst hj; simp [Addr.add]
theorem two_one (x y : Int) : ∀ u ∈ [Value.int .i64 x, .int .i64 y], u.oneCell' = true := by
  intro u hu
  simp at hu
  rcases hu with rfl | rfl <;> rfl

def strI (x a b : Int) : Int := if a < x then x + b else x
theorem strI_yes {x a b : Int} (h : a < x) : strI x a b = x + b := if_pos h
theorem strI_no {x a b : Int} (h : ¬ a < x) : strI x a b = x := if_neg h
def strVp (cs : List Int) (a b : Int) (n : Nat) : List Int := prs (fun k => strI (lft cs k) a b) (fun k => strI (rgt cs k) a b) n
/-- may the intervals be stretched so? -/
def strOk (cs : List Int) (a b : Int) (n : Nat) : Bool := goodV cs n && (decide (-1000 ≤ a) && decide (a ≤ 1000) && (decide (0 ≤ b) && decide (b ≤ 1000)))
def strB (cs : List Int) (a b : Int) (n : Nat) : Bool := strOk cs a b n && goodV (strVp cs a b n) n
def strVN (cs : List Int) (a b : Int) (n : Nat) : Nat := if strB cs a b n then n else 0
def strVL (cs : List Int) (a b : Int) (n : Nat) : List Int := if strB cs a b n then strVp cs a b n else []
theorem strOk_iff {cs : List Int} {a b : Int} {n : Nat} : strOk cs a b n = true ↔ goodV cs n = true ∧ -1000 ≤ a ∧ a ≤ 1000 ∧ 0 ≤ b ∧ b ≤ 1000 := by
  simp [strOk, and_assoc]
theorem strB_good {cs : List Int} {a b : Int} {n : Nat} (h : strB cs a b n = true) : goodV cs n = true := by
  simp only [strB, Bool.and_eq_true] at h
  exact (strOk_iff.1 h.1).1
theorem strVN_le {cs : List Int} {a b : Int} {n : Nat} : strVN cs a b n ≤ 1048576 := by
  unfold strVN
  split
  · rename_i h; have := (goodV_iff.1 (strB_good h)).1; omega
  · omega
theorem strVL_len (cs : List Int) (a b : Int) (n : Nat) : (strVL cs a b n).length = strVN cs a b n * 2 := by
  unfold strVL strVN
  split
  · exact prs_len _ _ _
  · rfl
theorem strVp_len (cs : List Int) (a b : Int) (n : Nat) : (strVp cs a b n).length = n * 2 := prs_len _ _ _
theorem strI_bd {x a b : Int} (h0 : -1000 ≤ x) (h1 : x ≤ 1000) (b0 : 0 ≤ b) (b1 : b ≤ 1000) : -1000 ≤ strI x a b ∧ strI x a b ≤ 2000 := by
  unfold strI; split <;> omega

theorem ivStretched_any (x a b : Int) (w : World) (h0 : -1000 ≤ x) (h1 : x ≤ 1000) (b0 : 0 ≤ b) (b1 : b ≤ 1000) :
    Calls Try.prog 70 #[.int .i64 x, .int .i64 a, .int .i64 b] w fun e w' => e = .returned (.int .i64 (strI x a b)) ∧ w = w' := by
  by_cases h : a < x
  · have H := Lib.hid (strI_yes (b := b) h)
    go_enter Try.func70, Try.ntmps70
    go_wp2
    go_ret
    exact ⟨ret_int H.out.symm, rfl⟩
  · have H := Lib.hid (strI_no (b := b) h)
    go_enter Try.func70, Try.ntmps70
    go_wp2
    go_ret
    exact ⟨ret_int H.out.symm, rfl⟩

def inB (n lo hi : Int) : Bool := decide (lo ≤ n) && decide (n ≤ hi)
theorem inB_iff {n lo hi : Int} : inB n lo hi = true ↔ lo ≤ n ∧ n ≤ hi := by simp [inB]
theorem inB_no {n lo hi : Int} : inB n lo hi = false ↔ n < lo ∨ hi < n := by
  rw [← Bool.not_eq_true, inB_iff]
  omega

theorem l1In_any (n lo hi : Int) (w : World) :
    Calls Try.prog 66 #[.int .i64 n, .int .i64 lo, .int .i64 hi] w fun e w' => e = .returned (.bool (inB n lo hi)) ∧ w = w' := by
  go_enter Try.func66, Try.ntmps66
  go_wp2
  all_goals (go_ret; exact ⟨ret_bool (by simp [inB]; try omega), rfl⟩)
theorem l1In_is {n lo hi : Int} {b : Bool} (h : inB n lo hi = b) (w : World) (m : Nat) :
    Calls Try.prog 66 #[.int .i64 n, .int .i64 lo, .int .i64 hi] (w.drewN m) fun e w' => e = .returned (.bool b) ∧ ∃ k, w' = w.drewN k :=
  Calls.quiet_of_same ((l1In_any n lo hi (w.drewN m)).mono (fun e w' hh => ⟨by rw [← h]; exact hh.1, hh.2.symm⟩))

theorem wrong_in {x y : Int} (h : inB (-1000) x y = true) : True := trivial
theorem ivGood_any (a : Option Addr) (cs : List Int) (n cap : Nat) (w : World) (hx : Rd w a cs) (hl : cs.length = n * 2) (hn : n ≤ 1048576) :
    Calls Try.prog 52 #[.slice a n cap] w fun e w' => e = .returned (.bool (goodV cs n)) ∧ Below w.heap.size w w' := by
  have HL := Lib.hid hl
  clear hl
  go_enter Try.func52, Try.ntmps52
  go_wp2_with fail
  go_loopw [7] (fun i wr => ∃ k : Nat, k ≤ n ∧ i = .int .i64 k ∧ (∀ j, j < k → wrongB (lft cs j) (rgt cs j) = false) ∧ Below w.heap.size w wr) (fun i _ => n - (intOf i).toNat)
  case atStart => exact ⟨0, Nat.zero_le _, rfl, fun j hj => by omega, Below.refl _ _⟩
  case round =>
    obtain ⟨k, hk, rfl, hall, hb⟩ := hrel
    have HA := Lib.hid hall
    clear hall
    have hzr := hb.size
    by_cases hlt : k < n
    · obtain ⟨b, off, rfl, hbl, hc1, hc2⟩ := (hx.below hb).pair HL.out hlt
      cases hin : inB (lft cs k) (-1000) (rgt cs k)
      · have HF := Lib.hid (goodV_no (cs := cs) hlt (by have := inB_no.1 hin; simp [wrongB]; omega))
        go_wp2_with (go_at_call 66; refine (l1In_any _ _ _ _).mono ?_; rintro e w' ⟨rfl, rfl⟩)
        go_ret
        exact ⟨ret_bool HF.out.symm, (by repeat (first | exact Below.refl _ _ | assumption | refine Below.alloc ?_ (by first | exact Nat.le_refl _ | (simp only [World.size_alloc, World.size_setCell, World.size_drew]; omega) | omega) _ | refine Below.setCell ?_ (by first | exact Nat.le_refl _ | (simp only [World.size_alloc, World.size_setCell, World.size_drew]; omega) | omega) _ | refine Below.drew ?_))⟩
      · by_cases h3 : 1000 < rgt cs k
        · have HF := Lib.hid (goodV_no (cs := cs) hlt (by simp [wrongB, h3]))
          go_wp2_with (go_at_call 66; refine (l1In_any _ _ _ _).mono ?_; rintro e w' ⟨rfl, rfl⟩)
          go_ret
          exact ⟨ret_bool HF.out.symm, (by repeat (first | exact Below.refl _ _ | assumption | refine Below.alloc ?_ (by first | exact Nat.le_refl _ | (simp only [World.size_alloc, World.size_setCell, World.size_drew]; omega) | omega) _ | refine Below.setCell ?_ (by first | exact Nat.le_refl _ | (simp only [World.size_alloc, World.size_setCell, World.size_drew]; omega) | omega) _ | refine Below.drew ?_))⟩
        · have HW := Lib.hid (show wrongB (lft cs k) (rgt cs k) = false by have := inB_iff.1 hin; rw [wrongB_no]; omega)
          go_wp2_with (go_at_call 66; refine (l1In_any _ _ _ _).mono ?_; rintro e w' ⟨rfl, rfl⟩)
          go_roundw
          case rel =>
            refine ⟨k + 1, by omega, by go_num, fun j hj => ?_, (by repeat (first | exact Below.refl _ _ | assumption | refine Below.alloc ?_ (by first | exact Nat.le_refl _ | (simp only [World.size_alloc, World.size_setCell, World.size_drew]; omega) | omega) _ | refine Below.setCell ?_ (by first | exact Nat.le_refl _ | (simp only [World.size_alloc, World.size_setCell, World.size_drew]; omega) | omega) _ | refine Below.drew ?_))⟩
            by_cases e : j = k
            · rw [e]; exact HW.out
            · exact HA.out j (by omega)
          case measure => simp [intOf]; omega
    · obtain rfl : k = n := by omega
      have HG : Hid (goodV cs k = decide (k ≤ 10)) := by
        by_cases h : k ≤ 10
        · rw [Hid, goodV_iff.2 ⟨h, HA.out⟩]; simp [h]
        · rw [Hid, goodV_big (by omega)]; simp; omega
      go_wp2_with fail
      go_ret
      exact ⟨ret_bool (by rw [HG.out]; simp; omega), hb⟩

theorem Var2.set0 {w : World} {b : Nat} {u v : Value} (h : Var2 w b u v) (u' : Value) : Var2 (w.setCell ⟨b, 0, none⟩ u') b u' v := by
  refine ⟨⟨by simpa using h.1.1, ?_, ?_⟩, by simpa using h.2.1, by simpa using h.2.2⟩
  · rw [World.cell?_setCell_same _ _ _ h.1.2.1]
  · rw [World.cell?_setCell_other _ _ _ _ (by simp)]; exact h.1.2.2
theorem OwnV.setOther {w : World} {B n : Nat} {v : Value} {cs : List Int} (h : OwnV w B v n cs) {p : Addr} (u : Value) (hne : v.ownBlock = none ∨ v.ownBlock ≠ some p.block) : OwnV (w.setCell p u) B v n cs := h.kept (grown_set w p u) hne

set_option maxRecDepth 100000 in
theorem sStretch_any (a : Option Addr) (cs : List Int) (n cap : Nat) (p q : Int) (w : World) (hx : Rd w a cs) (hl : cs.length = n * 2) (hn : n ≤ 1048576) (hp : -9223372036854775808 ≤ p ∧ p ≤ 9223372036854775807) (hq : -9223372036854775808 ≤ q ∧ q ≤ 9223372036854775807) :
    Calls Try.prog 34 #[.slice a n cap, .int .i64 p, .int .i64 q] w (GotV w (strVN cs p q n) (strVL cs p q n) (strB cs p q n)) := by
  obtain ⟨i0, hi, hz0, hz1, hz2⟩ := info_parts infoIv
  have HL := Lib.hid hl
  clear hl
  cases ho : strOk cs p q n
  · have hb : strB cs p q n = false := by simp [strB, ho]
    have H1 : Hid (strVN cs p q n = 0) := by simp [Hid, strVN, hb]
    have H2 : Hid (strVL cs p q n = []) := by simp [Hid, strVL, hb]
    have HB := Lib.hid hb
    cases hg : goodV cs n
    · have HG := Lib.hid hg
      clear hg hb ho
      go_enter Try.func34, Try.ntmps34
      go_wp2_with fail
      refine (ivGood_any _ _ _ _ _ hx HL.out hn).mono ?_
      rw [HG.out]
      rintro e w1 ⟨rfl, hb1⟩
      go_wp2_with fail
      refine bodyPost_ret (v := .tuple #[.slice none 0 0, .bool false]) (by simp [results, Try.results34, go_sem]) rfl ?_
      exact ⟨none, 0, by rw [H1.out, HB.out], by rw [H1.out, H2.out]; exact OwnV.nil _ _, hb1⟩
    · have HG := Lib.hid hg
      cases hip : inB p (-1000) 1000
      · clear hg hb ho
        go_enter Try.func34, Try.ntmps34
        go_wp2_with fail
        refine (ivGood_any _ _ _ _ _ hx HL.out hn).mono ?_
        rw [HG.out]
        rintro e w1 ⟨rfl, hb1⟩
        go_wp2_with (go_at_call 66; refine (l1In_any _ _ _ _).mono ?_; rintro e w' ⟨rfl, rfl⟩)
        refine bodyPost_ret (v := .tuple #[.slice none 0 0, .bool false]) (by simp [results, Try.results34, go_sem]) rfl ?_
        exact ⟨none, 0, by rw [H1.out, HB.out], by rw [H1.out, H2.out]; exact OwnV.nil _ _, hb1⟩
      · have hiq : inB q 0 1000 = false := by
          rw [inB_no]
          have h1 := inB_iff.1 hip
          apply Classical.byContradiction
          intro hne
          have := strOk_iff.2 (show goodV cs n = true ∧ -1000 ≤ p ∧ p ≤ 1000 ∧ 0 ≤ q ∧ q ≤ 1000 from ⟨hg, by omega, by omega, by omega, by omega⟩)
          rw [ho] at this; cases this
        clear hg hb ho
        go_enter Try.func34, Try.ntmps34
        go_wp2_with fail
        refine (ivGood_any _ _ _ _ _ hx HL.out hn).mono ?_
        rw [HG.out]
        rintro e w1 ⟨rfl, hb1⟩
        go_wp2_with (go_at_call 66; refine (l1In_any _ _ _ _).mono ?_; rintro e w' ⟨rfl, rfl⟩)
        refine bodyPost_ret (v := .tuple #[.slice none 0 0, .bool false]) (by simp [results, Try.results34, go_sem]) rfl ?_
        exact ⟨none, 0, by rw [H1.out, HB.out], by rw [H1.out, H2.out]; exact OwnV.nil _ _, hb1⟩
  · have ⟨hg, p0, p1, q0, q1⟩ := strOk_iff.1 ho
    have ⟨hn10, hbd⟩ := goodV_iff.1 hg
    have HB0 : Hid (strB cs p q n = goodV (strVp cs p q n) n) := by simp [Hid, strB, ho]
    have hip : inB p (-1000) 1000 = true := inB_iff.2 ⟨p0, p1⟩
    have hiq : inB q 0 1000 = true := inB_iff.2 ⟨q0, q1⟩
    have HG := Lib.hid hg
    have HB := Lib.hid hbd
    clear hg hbd ho
    go_enter Try.func34, Try.ntmps34
    go_wp2_with fail
    refine (ivGood_any _ _ _ _ _ hx HL.out hn).mono ?_
    rw [HG.out]
    rintro e w1 ⟨rfl, hb1⟩
    go_wp2_with (go_at_call 66; refine (l1In_any _ _ _ _).mono ?_; rintro e w' ⟨rfl, rfl⟩)
    clear hip hiq
    go_loopw [8, 26] (fun v i wr => ∃ k : Nat, k ≤ n ∧ i = .int .i64 k ∧ OwnV wr w.heap.size v k (prs (fun k => strI (lft cs k) p q) (fun k => strI (rgt cs k) p q) k) ∧ Below w.heap.size w wr) (fun _ i _ => n - (intOf i).toNat)
    case atStart => exact ⟨0, Nat.zero_le _, rfl, OwnV.nil _ _, hb1⟩
    case round =>
      obtain ⟨k, hk, rfl, hown, hb⟩ := hrel
      obtain ⟨av, cv, rfl⟩ := hown.form
      by_cases hlt : k < n
      · obtain ⟨b, off, rfl, hbl, hc1, hc2⟩ := (hx.below hb).pair HL.out hlt
        have ⟨hb1', hb2', hb3'⟩ := wrongB_no.1 (HB.out k hlt)
        have hb4' : lft cs k ≤ 1000 := by omega
        have hb5' : -1000 ≤ rgt cs k := by omega
        have hzr := hb.size
        have Hown := Lib.hid (hown.below (w' := (((wr.alloc (.cells #[.int .i64 (lft cs k), .int .i64 (rgt cs k)] 49)).alloc (.cells #[.int .i64 (strI (lft cs k) p q), .int .i64 (strI (rgt cs k) p q)] 49)).drew)) (((Below.refl _ _).alloc (Nat.le_refl _) _).alloc (by simp) _).drew (Nat.le_refl _))
        have hnews := cell_two_new (wr.alloc (.cells #[.int .i64 (lft cs k), .int .i64 (rgt cs k)] 49)) (.int .i64 (strI (lft cs k) p q)) (.int .i64 (strI (rgt cs k) p q)) 49
        simp only [World.size_alloc] at hnews
        have Hnews := Lib.hid hnews
        clear hnews
        go_wp2_with fail
        go_region_law (first | (refine step_append_lies _ (by rfl) _ _ _ (by rfl) w.heap.size 49 i0 (.agg #[.int .i64 0, .int .i64 0]) 2 16 Try.underlying30 hi hz0 hz1 hz2 rfl (by omega) (.slice av k cv) k ((prs (fun k => strI (lft cs k) p q) (fun k => strI (rgt cs k) p q) k).map (Value.int .i64)) (by rfl) Hown.out ⟨wr.heap.size + 1, 0, none⟩ 1 1 [.int .i64 (strI (lft cs k) p q), .int .i64 (strI (rgt cs k) p q)] (by rfl) (by rfl) Hnews.out (two_one _ _) (by omega) (by unfold maxLen; omega) (by omega) (by simp; omega) (wr.heap.size + 2) (by simp) ?_; intro gg cap3 w3 hown3 hgrow hat hlt3) | (go_simp; go_at_call 70; refine (ivStretched_any _ _ _ _ (by assumption) (by assumption) (by assumption) (by assumption)).mono ?_; rintro e w2 ⟨rfl, rfl⟩))
        all_goals
          have hg2 : wr.grownBy w3 (Value.slice av k cv).ownBlock := grown_alloc_set (grown_alloc_set (o := .cells #[.int .i64 (strI (lft cs k) p q), .int .i64 (strI (rgt cs k) p q)] 49) ⟨hgrow.os, hgrow.tape, hgrow.output, hgrow.size, hgrow.block⟩)
          have o3 : OwnV w3 w.heap.size (.slice (some ⟨gg, 0, none⟩) (k + 1) cap3) (k + 1) (prs (fun k => strI (lft cs k) p q) (fun k => strI (rgt cs k) p q) (k + 1)) := by
            unfold OwnV
            rw [prs_succ, List.map_append]
            exact hown3
          have hU := hown.lt
          have bw3 := hb.trans (below_of_grown hg2 (fun c e => by have := hU c e; omega) hb.size)
          clear hown3 hgrow hU hat
          go_wp2_with fail
          go_roundw
          case rel => exact ⟨k + 1, by omega, by go_num, o3, bw3⟩
          case measure => simp [intOf]; omega
      · obtain rfl : k = n := by omega
        have hrv : Rd wr av (strVp cs p q k) := hown.rd (by omega)
        cases hg2 : goodV (strVp cs p q k) k
        · have hb2 : strB cs p q k = false := by rw [HB0.out, hg2]
          have H1 : Hid (strVN cs p q k = 0) := by simp [Hid, strVN, hb2]
          have H2 : Hid (strVL cs p q k = []) := by simp [Hid, strVL, hb2]
          have HB2 := Lib.hid hb2
          have HG2 := Lib.hid hg2
          clear hb2 hg2
          go_wp2_with fail
          refine (ivGood_any _ _ _ _ _ hrv (strVp_len _ _ _ _) (by omega)).mono ?_
          rw [HG2.out]
          rintro e w5 ⟨rfl, hb5⟩
          go_wp2_with fail
          refine bodyPost_ret (v := .tuple #[.slice none 0 0, .bool false]) (by simp [results, Try.results34, go_sem]) rfl ?_
          exact ⟨none, 0, by rw [H1.out, HB2.out], by rw [H1.out, H2.out]; exact OwnV.nil _ _, hb.trans (hb5.mono hb.size)⟩
        · have hb2 : strB cs p q k = true := by rw [HB0.out, hg2]
          have H1 : Hid (strVN cs p q k = k) := by simp [Hid, strVN, hb2]
          have H2 : Hid (strVL cs p q k = strVp cs p q k) := by simp [Hid, strVL, hb2]
          have HB2 := Lib.hid hb2
          have HG2 := Lib.hid hg2
          clear hb2 hg2
          go_wp2_with fail
          refine (ivGood_any _ _ _ _ _ hrv (strVp_len _ _ _ _) (by omega)).mono ?_
          rw [HG2.out]
          rintro e w5 ⟨rfl, hb5⟩
          have o5 := hown.below hb5 (Nat.le_refl _)
          go_wp2_with fail
          refine bodyPost_ret (v := .tuple #[.slice av k cv, .bool true]) (by simp [results, Try.results34, go_sem]) rfl ?_
          exact ⟨av, cv, by rw [H1.out, HB2.out], by rw [H1.out, H2.out]; exact o5, hb.trans (hb5.mono hb.size)⟩

theorem ends_any (x y : Int) (w : World) :
    Calls Try.prog 72 #[.agg #[.int .i64 x, .int .i64 y]] w fun e w' => e = .returned (.agg #[.int .i64 x, .int .i64 y]) ∧ Below w.heap.size w w' := by
  go_enter Try.func72, Try.ntmps72
  go_wp2
  refine bodyPost_ret (v := .agg #[.int .i64 x, .int .i64 y]) (by simp [results, Try.results72, go_sem]) rfl ⟨rfl, ?_⟩
  exact (by repeat (first | exact Below.refl _ _ | assumption | refine Below.alloc ?_ (by first | exact Nat.le_refl _ | (simp only [World.size_alloc, World.size_setCell, World.size_drew]; omega) | omega) _ | refine Below.setCell ?_ (by first | exact Nat.le_refl _ | (simp only [World.size_alloc, World.size_setCell, World.size_drew]; omega) | omega) _ | refine Below.drew ?_))

theorem isWrong_any (x y : Int) (w : World) :
    Calls Try.prog 102 #[.agg #[.int .i64 x, .int .i64 y]] w fun e w' => e = .returned (.bool (wrongB x y)) ∧ Below w.heap.size w w' := by
  by_cases h1 : x < -1000
  · have H : Hid (wrongB x y = true) := by simp [Hid, wrongB, h1]
    go_enter Try.func102, Try.ntmps102
    go_wp2
    go_ret
    exact ⟨ret_bool H.out.symm, (by repeat (first | exact Below.refl _ _ | assumption | refine Below.alloc ?_ (by first | exact Nat.le_refl _ | (simp only [World.size_alloc, World.size_setCell, World.size_drew]; omega) | omega) _ | refine Below.setCell ?_ (by first | exact Nat.le_refl _ | (simp only [World.size_alloc, World.size_setCell, World.size_drew]; omega) | omega) _ | refine Below.drew ?_))⟩
  · by_cases h2 : y < x
    · have H : Hid (wrongB x y = true) := by simp [Hid, wrongB, h2]
      go_enter Try.func102, Try.ntmps102
      go_wp2
      go_ret
      exact ⟨ret_bool H.out.symm, (by repeat (first | exact Below.refl _ _ | assumption | refine Below.alloc ?_ (by first | exact Nat.le_refl _ | (simp only [World.size_alloc, World.size_setCell, World.size_drew]; omega) | omega) _ | refine Below.setCell ?_ (by first | exact Nat.le_refl _ | (simp only [World.size_alloc, World.size_setCell, World.size_drew]; omega) | omega) _ | refine Below.drew ?_))⟩
    · have H : Hid (wrongB x y = decide (1000 < y)) := by simp [Hid, wrongB, h1, h2]
      go_enter Try.func102, Try.ntmps102
      go_wp2
      go_ret
      exact ⟨ret_bool (by rw [H.out]), (by repeat (first | exact Below.refl _ _ | assumption | refine Below.alloc ?_ (by first | exact Nat.le_refl _ | (simp only [World.size_alloc, World.size_setCell, World.size_drew]; omega) | omega) _ | refine Below.setCell ?_ (by first | exact Nat.le_refl _ | (simp only [World.size_alloc, World.size_setCell, World.size_drew]; omega) | omega) _ | refine Below.drew ?_))⟩

/-- the first wrong pair, or -1 -/
def idxW (cs : List Int) (n : Nat) : Int := match (List.range n).find? (fun k => wrongB (lft cs k) (rgt cs k)) with | some k => (k : Int) | none => -1
theorem idxW_at {cs : List Int} {n k : Nat} (hk : k < n) (h : wrongB (lft cs k) (rgt cs k) = true) (hb : ∀ j, j < k → wrongB (lft cs j) (rgt cs j) = false) : idxW cs n = (k : Int) := by
  have : (List.range n).find? (fun k => wrongB (lft cs k) (rgt cs k)) = some k := by
    rw [List.find?_range_eq_some]
    exact ⟨h, by simpa using hk, fun j hj => by simp [hb j hj]⟩
  rw [idxW, this]
theorem idxW_none {cs : List Int} {n : Nat} (h : ∀ j, j < n → wrongB (lft cs j) (rgt cs j) = false) : idxW cs n = -1 := by
  have : (List.range n).find? (fun k => wrongB (lft cs k) (rgt cs k)) = none := by
    rw [List.find?_eq_none]
    intro x hx
    simp [h x (by simpa using hx)]
  rw [idxW, this]
theorem indexWrong_any (a : Option Addr) (cs : List Int) (n cap : Nat) (w : World) (hx : Rd w a cs) (hl : cs.length = n * 2) (hn : n ≤ 1048576) :
    Calls Try.prog 121 #[.slice a n cap, .func (.func 102) #[] #[]] w fun e w' => e = .returned (.int .i64 (idxW cs n)) ∧ Below w.heap.size w w' := by
  have HL := Lib.hid hl
  clear hl
  go_enter Try.func121, Try.ntmps121
  go_wp2_with fail
  go_loopw [8] (fun i wr => ∃ k : Nat, k ≤ n ∧ i = .int .i64 k ∧ (∀ j, j < k → wrongB (lft cs j) (rgt cs j) = false) ∧ Below w.heap.size w wr) (fun i _ => n - (intOf i).toNat)
  case atStart => exact ⟨0, Nat.zero_le _, rfl, fun j hj => by omega, Below.refl _ _⟩
  case round =>
    obtain ⟨k, hk, rfl, hall, hb⟩ := hrel
    have HA := Lib.hid hall
    clear hall
    by_cases hlt : k < n
    · obtain ⟨b, off, rfl, hbl, hc1, hc2⟩ := (hx.below hb).pair HL.out hlt
      cases hw : wrongB (lft cs k) (rgt cs k)
      · have HW := Lib.hid hw
        go_wp2_with fail
        refine (isWrong_any _ _ _).mono ?_
        rw [HW.out]
        rintro e w2 ⟨rfl, hb2⟩
        have bw2 := hb.trans (hb2.mono hb.size)
        go_wp2_with fail
        go_roundw
        case rel =>
          refine ⟨k + 1, by omega, by go_num, fun j hj => ?_, bw2⟩
          by_cases e : j = k
          · rw [e]; exact HW.out
          · exact HA.out j (by omega)
        case measure => simp [intOf]; omega
      · have HI := Lib.hid (idxW_at hlt hw HA.out)
        have HW := Lib.hid hw
        go_wp2_with fail
        refine (isWrong_any _ _ _).mono ?_
        rw [HW.out]
        rintro e w2 ⟨rfl, hb2⟩
        have bw2 := hb.trans (hb2.mono hb.size)
        go_wp2_with fail
        go_ret
        exact ⟨ret_int HI.out.symm, bw2⟩
    · obtain rfl : k = n := by omega
      have HI := Lib.hid (idxW_none HA.out)
      go_wp2_with fail
      go_ret
      exact ⟨ret_int HI.out.symm, hb⟩
theorem containsWrong_any (a : Option Addr) (cs : List Int) (n cap : Nat) (w : World) (hx : Rd w a cs) (hl : cs.length = n * 2) (hn : n ≤ 1048576) :
    Calls Try.prog 101 #[.slice a n cap, .func (.func 102) #[] #[]] w fun e w' => e = .returned (.bool (decide (0 ≤ idxW cs n))) ∧ Below w.heap.size w w' := by
  go_enter Try.func101, Try.ntmps101
  go_wp2_with fail
  refine (indexWrong_any _ _ _ _ _ hx hl hn).mono ?_
  rintro e w2 ⟨rfl, hb2⟩
  clear hl
  go_wp2_with fail
  go_ret
  exact ⟨rfl, hb2⟩
theorem good_idx {cs : List Int} {n : Nat} (h : n ≤ 10) : goodV cs n = !decide (0 ≤ idxW cs n) := by
  cases hg : goodV cs n
  · have h1 : ∃ k, k < n ∧ wrongB (lft cs k) (rgt cs k) = true := by
      apply Classical.byContradiction
      intro hne
      have : goodV cs n = true := goodV_iff.2 ⟨h, fun k hk => by
        cases hw : wrongB (lft cs k) (rgt cs k)
        · rfl
        · exact absurd ⟨k, hk, hw⟩ hne⟩
      rw [hg] at this; cases this
    unfold idxW
    cases hf : (List.range n).find? (fun k => wrongB (lft cs k) (rgt cs k)) with
    | none =>
      obtain ⟨k, hk, hw⟩ := h1
      rw [List.find?_eq_none] at hf
      exact absurd hw (hf k (by simpa using hk))
    | some k => simp
  · rw [idxW_none (goodV_iff.1 hg).2]; rfl

theorem iAreIntervals_any (a : Option Addr) (cs : List Int) (n cap : Nat) (w : World) (hx : Rd w a cs) (hl : cs.length = n * 2) (hn : n ≤ 1048576) :
    Calls Try.prog 71 #[.slice a n cap] w fun e w' => e = .returned (.bool (goodV cs n)) ∧ Below w.heap.size w w' := by
  by_cases h : n ≤ 10
  · have H := Lib.hid (good_idx (cs := cs) h)
    have HL := Lib.hid hl
    clear hl
    go_enter Try.func71, Try.ntmps71
    go_wp2_with fail
    refine (containsWrong_any _ _ _ _ _ hx HL.out hn).mono ?_
    rintro e w2 ⟨rfl, hb2⟩
    go_wp2_with fail
    go_ret
    exact ⟨ret_bool (by rw [H.out]), hb2⟩
  · have H := Lib.hid (goodV_big (cs := cs) (n := n) (by omega))
    clear hl
    go_enter Try.func71, Try.ntmps71
    go_wp2_with fail
    go_ret
    exact ⟨ret_bool H.out.symm, Below.refl _ _⟩

/-- the ends of a pair behind j of them have been stretched -/
def StrAt (x y a b : Int) (i : Value) (wi : World) (B : Nat) : Prop :=
  (i = .int .i64 0 ∧ Var2 wi B (.int .i64 x) (.int .i64 y)) ∨ (i = .int .i64 1 ∧ Var2 wi B (.int .i64 (strI x a b)) (.int .i64 y)) ∨ (i = .int .i64 2 ∧ Var2 wi B (.int .i64 (strI x a b)) (.int .i64 (strI y a b)))
set_option maxRecDepth 100000 in
theorem iStretch_any (a : Option Addr) (cs : List Int) (n cap : Nat) (p q : Int) (w : World) (hx : Rd w a cs) (hl : cs.length = n * 2) (hn : n ≤ 1048576) (hp : -9223372036854775808 ≤ p ∧ p ≤ 9223372036854775807) (hq : -9223372036854775808 ≤ q ∧ q ≤ 9223372036854775807) :
    Calls Try.prog 35 #[.slice a n cap, .int .i64 p, .int .i64 q] w (GotV w (strVN cs p q n) (strVL cs p q n) (strB cs p q n)) := by
  obtain ⟨i0, hi, hz0, hz1, hz2⟩ := info_parts infoIv
  have HL := Lib.hid hl
  clear hl
  cases ho : strOk cs p q n
  · have hb : strB cs p q n = false := by simp [strB, ho]
    have H1 : Hid (strVN cs p q n = 0) := by simp [Hid, strVN, hb]
    have H2 : Hid (strVL cs p q n = []) := by simp [Hid, strVL, hb]
    have HB := Lib.hid hb
    cases hg : goodV cs n
    · have HG := Lib.hid hg
      clear hg hb ho
      go_enter Try.func35, Try.ntmps35
      go_wp2_with fail
      refine (iAreIntervals_any _ _ _ _ _ hx HL.out hn).mono ?_
      rw [HG.out]
      rintro e w1 ⟨rfl, hb1⟩
      go_wp2_with fail
      refine bodyPost_ret (v := .tuple #[.slice none 0 0, .bool false]) (by simp [results, Try.results35, go_sem]) rfl ?_
      exact ⟨none, 0, by rw [H1.out, HB.out], by rw [H1.out, H2.out]; exact OwnV.nil _ _, hb1⟩
    · have hc : p < -1000 ∨ 1000 < p ∨ q < 0 ∨ 1000 < q := by
        apply Classical.byContradiction
        intro hne
        have := strOk_iff.2 (show goodV cs n = true ∧ -1000 ≤ p ∧ p ≤ 1000 ∧ 0 ≤ q ∧ q ≤ 1000 from ⟨hg, by omega, by omega, by omega, by omega⟩)
        rw [ho] at this; cases this
      have HG := Lib.hid hg
      clear hg hb ho
      go_enter Try.func35, Try.ntmps35
      go_wp2_with fail
      refine (iAreIntervals_any _ _ _ _ _ hx HL.out hn).mono ?_
      rw [HG.out]
      rintro e w1 ⟨rfl, hb1⟩
      by_cases h1 : p < -1000
      · clear hc
        go_wp2_with fail
        refine bodyPost_ret (v := .tuple #[.slice none 0 0, .bool false]) (by simp [results, Try.results35, go_sem]) rfl ?_
        exact ⟨none, 0, by rw [H1.out, HB.out], by rw [H1.out, H2.out]; exact OwnV.nil _ _, hb1⟩
      · by_cases h2 : 1000 < p
        · clear hc
          go_wp2_with fail
          refine bodyPost_ret (v := .tuple #[.slice none 0 0, .bool false]) (by simp [results, Try.results35, go_sem]) rfl ?_
          exact ⟨none, 0, by rw [H1.out, HB.out], by rw [H1.out, H2.out]; exact OwnV.nil _ _, hb1⟩
        · by_cases h3 : q < 0
          · clear hc
            go_wp2_with fail
            refine bodyPost_ret (v := .tuple #[.slice none 0 0, .bool false]) (by simp [results, Try.results35, go_sem]) rfl ?_
            exact ⟨none, 0, by rw [H1.out, HB.out], by rw [H1.out, H2.out]; exact OwnV.nil _ _, hb1⟩
          · have h4 : 1000 < q := by omega
            clear hc
            go_wp2_with fail
            refine bodyPost_ret (v := .tuple #[.slice none 0 0, .bool false]) (by simp [results, Try.results35, go_sem]) rfl ?_
            exact ⟨none, 0, by rw [H1.out, HB.out], by rw [H1.out, H2.out]; exact OwnV.nil _ _, hb1⟩
  · have ⟨hg, p0, p1, q0, q1⟩ := strOk_iff.1 ho
    have ⟨hn10, hbd⟩ := goodV_iff.1 hg
    have HB0 : Hid (strB cs p q n = goodV (strVp cs p q n) n) := by simp [Hid, strB, ho]
    have HG := Lib.hid hg
    have HB := Lib.hid hbd
    clear hg hbd ho
    go_enter Try.func35, Try.ntmps35
    go_wp2_with fail
    refine (iAreIntervals_any _ _ _ _ _ hx HL.out hn).mono ?_
    rw [HG.out]
    rintro e w1 ⟨rfl, hb1⟩
    go_wp2_with (at_make; refine wpList_make_full _ rfl (.tmp 34) (.tmp 34) 30 rfl w1.heap.size 49 i0 (.agg #[.int .i64 0, .int .i64 0]) 2 Try.underlying30 hi hz0 hz1 .i64 .i64 _ _ n rfl rfl rfl rfl (by rw [hz2]; omega) (by unfold maxLen; omega) (Nat.le_refl _) ?_; intro w2 hown hgrow)
    have hb2 : Below w1.heap.size w1 w2 := (Below.refl _ _).grown hgrow (Nat.le_refl _) (fun k h => by cases h)
    have hown0 := made_rowP (fun k => strI (lft cs k) p q) (fun k => strI (rgt cs k) p q) hown
    have bw2 := hb1.trans (hb2.mono hb1.size)
    obtain ⟨g, hgz⟩ : ∃ g, g = w1.heap.size := ⟨_, rfl⟩
    rw [← hgz] at hown0 ⊢
    have hgw : w.heap.size ≤ g := by have := hb1.size; omega
    clear hown hgrow hb2 hgz
    go_wp2_with fail
    go_loopw [38] (fun i wr => ∃ k : Nat, k ≤ n ∧ i = .int .i64 k ∧ OwnV wr w.heap.size (.slice (some ⟨g, 0, none⟩) n n) n (rowP (fun k => strI (lft cs k) p q) (fun k => strI (rgt cs k) p q) n k) ∧ Below w.heap.size w wr) (fun i _ => n - (intOf i).toNat)
    case atStart => exact ⟨0, Nat.zero_le _, rfl, hown0.mono hgw, bw2⟩
    case round =>
      obtain ⟨k, hk, rfl, hown, hb⟩ := hrel
      obtain ⟨wo, rfl⟩ : ∃ wo : World, wo = wr := ⟨_, rfl⟩
      by_cases hlt : k < n
      · obtain ⟨b, off, rfl, hbl, hc1, hc2⟩ := (hx.below hb).pair HL.out hlt
        have ⟨hb1', hb2', hb3'⟩ := wrongB_no.1 (HB.out k hlt)
        have hgl := (hown.lt g rfl).2
        have hzr := hb.size
        go_wp2_with fail
        refine (ends_any _ _ _).mono ?_
        rintro e w3 ⟨rfl, hb3⟩
        have ht3 : Below wo.heap.size wo w3 := Below.trans (by repeat (first | exact Below.refl _ _ | assumption | refine Below.alloc ?_ (by first | exact Nat.le_refl _ | (simp only [World.size_alloc, World.size_setCell, World.size_drew]; omega) | omega) _ | refine Below.setCell ?_ (by first | exact Nat.le_refl _ | (simp only [World.size_alloc, World.size_setCell, World.size_drew]; omega) | omega) _ | refine Below.drew ?_)) (hb3.mono (by first | (simp only [World.size_alloc, World.size_setCell, World.size_drew]; omega) | omega))
        have o3 := hown.below ht3 (Nat.le_refl _)
        have bw3 := hb.trans (ht3.mono hb.size)
        have hz3 := ht3.size
        have k0 : (0 : Int) ≤ (k : Int) := by omega
        have k1 : (k : Int) < (n : Int) := by omega
        have n1 : (n : Int) ≤ 10 := by omega
        clear hb3 hc1 hc2 hown
        have j0 : ∀ w, (Instr.index 77 (.agg #[.int .i64 (lft cs k), .int .i64 (rgt cs k)]) (.int .i64 0)).run Try.prog w = .ok (.int .i64 (lft cs k)) w := fun _ => by kernel_rfl
        have j1 : ∀ w, (Instr.index 77 (.agg #[.int .i64 (lft cs k), .int .i64 (rgt cs k)]) (.int .i64 1)).run Try.prog w = .ok (.int .i64 (rgt cs k)) w := fun _ => by kernel_rfl
        have J0 := Lib.hid j0
        have J1 := Lib.hid j1
        clear j0 j1
        go_wp2_with fail
        go_loopw [46] (fun i' wi => StrAt (lft cs k) (rgt cs k) p q i' wi w3.heap.size ∧ OwnV wi w.heap.size (.slice (some ⟨g, 0, none⟩) n n) n (rowP (fun k => strI (lft cs k) p q) (fun k => strI (rgt cs k) p q) n k) ∧ Below w.heap.size w wi) (fun i' _ => 2 - (intOf i').toNat)
        case atStart => exact ⟨.inl ⟨rfl, Var2.new w3 _ _ _⟩, o3.alloc _, (by repeat (first | exact Below.refl _ _ | assumption | refine Below.alloc ?_ (by first | exact Nat.le_refl _ | (simp only [World.size_alloc, World.size_setCell, World.size_drew]; omega) | omega) _ | refine Below.setCell ?_ (by first | exact Nat.le_refl _ | (simp only [World.size_alloc, World.size_setCell, World.size_drew]; omega) | omega) _ | refine Below.drew ?_))⟩
        case round =>
          obtain ⟨hs, hO, hbi⟩ := hrel
          have hne : ∀ j, (Value.slice (some ⟨g, 0, none⟩) n n).ownBlock = none ∨ (Value.slice (some ⟨g, 0, none⟩) n n).ownBlock ≠ some (Addr.mk w3.heap.size j none).block := fun j => .inr (by simp [Value.ownBlock]; omega)
          have HNE := Lib.hid hne
          clear hne
          rcases hs with ⟨rfl, hV⟩ | ⟨rfl, hV⟩ | ⟨rfl, hV⟩
          · have ⟨⟨zV, cV, dV⟩, fV, gV⟩ := hV
            have i0' := J0.out
            by_cases hgt : p < lft cs k
            · have HS := Lib.hid (strI_yes (b := q) hgt)
              go_wp2_with fail
              go_roundw
              case rel =>
                rw [← HS.out]
                exact ⟨.inr (.inl ⟨rfl, hV.set0 _⟩), hO.setOther (p := ⟨w3.heap.size, 0, none⟩) _ (HNE.out 0), hbi.setCell (p := ⟨w3.heap.size, 0, none⟩) (show w.heap.size ≤ w3.heap.size by omega) _⟩
              case measure => simp [intOf]
            · have HS := Lib.hid (strI_no (b := q) hgt)
              go_wp2_with fail
              go_roundw
              case rel => exact ⟨.inr (.inl ⟨rfl, by rw [HS.out]; exact hV⟩), hO, hbi⟩
              case measure => simp [intOf]
          · have ⟨⟨zV, cV, dV⟩, fV, gV⟩ := hV
            have i0' := J1.out
            by_cases hgt : p < rgt cs k
            · have HS := Lib.hid (strI_yes (b := q) hgt)
              go_wp2_with fail
              go_roundw
              case rel =>
                rw [← HS.out]
                exact ⟨.inr (.inr ⟨rfl, hV.set1 _⟩), hO.setOther (p := ⟨w3.heap.size, 1, none⟩) _ (HNE.out 1), hbi.setCell (p := ⟨w3.heap.size, 1, none⟩) (show w.heap.size ≤ w3.heap.size by omega) _⟩
              case measure => simp [intOf]
            · have HS := Lib.hid (strI_no (b := q) hgt)
              go_wp2_with fail
              go_roundw
              case rel => exact ⟨.inr (.inr ⟨rfl, by rw [HS.out]; exact hV⟩), hO, hbi⟩
              case measure => simp [intOf]
          · have ⟨⟨zV, cV, dV⟩, fV, gV⟩ := hV
            have hpl := rowP_len (fun k => strI (lft cs k) p q) (fun k => strI (rgt cs k) p q) hk
            have ⟨c1, f1⟩ := hO.at' (i := k * 2) (by omega)
            have ⟨c2, f2⟩ := hO.at' (i := k * 2 + 1) (by omega)
            have q1' := hO.put (k * 2) (strI (lft cs k) p q)
            have q2 := q1'.1.put (k * 2 + 1) (strI (rgt cs k) p q)
            rw [rowP_next _ _ hlt] at q2
            have P2 := Lib.hid q2.1
            have bw4 := (hbi.setCell (p := ⟨g, k * 2, none⟩) hgw (.int .i64 (strI (lft cs k) p q))).setCell (p := ⟨g, k * 2 + 1, none⟩) hgw (.int .i64 (strI (rgt cs k) p q))
            clear hO q1' q2 hpl HNE
            go_wp2_with fail
            go_roundw
            case rel => exact ⟨k + 1, by omega, by go_num, P2.out, bw4⟩
            case measure => simp [intOf]; omega
      · obtain rfl : k = n := by omega
        rw [rowP_end] at hown
        have hrv : Rd wo (some ⟨g, 0, none⟩) (strVp cs p q k) := hown.rd (by omega)
        cases hg2 : goodV (strVp cs p q k) k
        · have hb2 : strB cs p q k = false := by rw [HB0.out, hg2]
          have H1 : Hid (strVN cs p q k = 0) := by simp [Hid, strVN, hb2]
          have H2 : Hid (strVL cs p q k = []) := by simp [Hid, strVL, hb2]
          have HB2 := Lib.hid hb2
          have HG2 := Lib.hid hg2
          clear hb2 hg2
          go_wp2_with fail
          refine (iAreIntervals_any _ _ _ _ _ hrv (strVp_len _ _ _ _) (by omega)).mono ?_
          rw [HG2.out]
          rintro e w5 ⟨rfl, hb5⟩
          go_wp2_with fail
          refine bodyPost_ret (v := .tuple #[.slice none 0 0, .bool false]) (by simp [results, Try.results35, go_sem]) rfl ?_
          exact ⟨none, 0, by rw [H1.out, HB2.out], by rw [H1.out, H2.out]; exact OwnV.nil _ _, hb.trans (hb5.mono hb.size)⟩
        · have hb2 : strB cs p q k = true := by rw [HB0.out, hg2]
          have H1 : Hid (strVN cs p q k = k) := by simp [Hid, strVN, hb2]
          have H2 : Hid (strVL cs p q k = strVp cs p q k) := by simp [Hid, strVL, hb2]
          have HB2 := Lib.hid hb2
          have HG2 := Lib.hid hg2
          clear hb2 hg2
          go_wp2_with fail
          refine (iAreIntervals_any _ _ _ _ _ hrv (strVp_len _ _ _ _) (by omega)).mono ?_
          rw [HG2.out]
          rintro e w5 ⟨rfl, hb5⟩
          have o5 := hown.below hb5 (Nat.le_refl _)
          go_wp2_with fail
          refine bodyPost_ret (v := .tuple #[.slice (some ⟨g, 0, none⟩) k k, .bool true]) (by simp [results, Try.results35, go_sem]) rfl ?_
          exact ⟨some ⟨g, 0, none⟩, k, by rw [H1.out, HB2.out], by rw [H1.out, H2.out]; exact o5, hb.trans (hb5.mono hb.size)⟩

/-- the marks k, k + 1, .. -/
def marks (k : Int) (n : Nat) : List Int := (List.range n).map (fun (j : Nat) => k + (j : Int))
theorem marks_len (k : Int) (n : Nat) : (marks k n).length = n := by simp [marks]
theorem marks_nth {k : Int} {n j : Nat} (h : j < n) : nth (marks k n) j = k + j := by
  simp [nth, marks, h]
theorem mark_step (k : Int) (xs : List Int) (j : Nat) (h : j < xs.length) :
    ((marks k j ++ xs.drop j).map (Value.int .i64)).set j (.int .i64 (k + j)) = (marks k (j+1) ++ xs.drop (j+1)).map (Value.int .i64) := by
  apply List.ext_getElem?
  intro i
  rw [List.getElem?_set]
  by_cases hj : j = i
  · subst hj
    rw [if_pos rfl, if_pos (by simp [marks_len]; omega), List.getElem?_map, List.getElem?_append_left (by rw [marks_len]; omega)]
    simp [marks]
  · simp only [hj, if_false, List.getElem?_map, List.getElem?_append, marks_len, List.getElem?_drop]
    by_cases h1 : i < j
    · have h2 : i < j + 1 := by omega
      simp [h1, h2, marks]
    · have h2 : ¬ i < j + 1 := by omega
      have h3 : j + (i - j) = j + 1 + (i - (j + 1)) := by omega
      simp [h1, h2, h3]
theorem own_ne {v u : Value} (h : ∀ c, v.ownBlock = some c → u.ownBlock ≠ some c) : v.ownBlock = none ∨ v.ownBlock ≠ u.ownBlock := by
  cases hv : v.ownBlock with
  | none => exact .inl rfl
  | some c => exact .inr (fun e => h c hv e.symm)

/-- the flat row of which the first m cells bear marks -/
def mkV (k : Int) (cs : List Int) (m : Nat) : List Int := marks k m ++ cs.drop m
theorem mkV_len {k : Int} {cs : List Int} {m : Nat} (h : m ≤ cs.length) : (mkV k cs m).length = cs.length := by
  simp [mkV, marks_len]; omega
theorem mkV_set {k : Int} {cs : List Int} {m : Nat} (h : m < cs.length) : (mkV k cs m).set m (k + m) = mkV k cs (m+1) := by
  apply List.ext_getElem?
  intro i
  rw [List.getElem?_set]
  by_cases hj : m = i
  · subst hj
    rw [if_pos rfl, if_pos (by rw [mkV_len (by omega)]; exact h), mkV, List.getElem?_append_left (by rw [marks_len]; omega)]
    simp [marks]
  · simp only [hj, if_false, mkV, List.getElem?_append, marks_len, List.getElem?_drop]
    by_cases h1 : i < m
    · have h2 : i < m + 1 := by omega
      simp [h1, h2, marks]
    · have h2 : ¬ i < m + 1 := by omega
      have h3 : m + (i - m) = m + 1 + (i - (m + 1)) := by omega
      simp [h1, h2, h3]
theorem markIntervalS_any (a : Option Addr) (cs : List Int) (n cap : Nat) (k : Int) (B : Nat) (w : World) (h0 : 0 ≤ k) (h1 : k ≤ 1099511627776) (hn : n ≤ 1048576) (ho : OwnV w B (.slice a n cap) n cs) :
    Calls Try.prog 36 #[.slice a n cap, .int .i64 k] w fun e w' => e = .returned (.int .i64 (k + (n * 2 : Nat))) ∧ OwnV w' B (.slice a n cap) n (marks k (n * 2)) ∧ w.grownBy w' (Value.slice a n cap).ownBlock := by
  have HL := Lib.hid ho.len
  go_enter Try.func36, Try.ntmps36
  go_wp2_with fail
  go_loopw [1, 5] (fun k' i wr => ∃ j : Nat, j ≤ n ∧ i = .int .i64 j ∧ k' = .int .i64 (k + (j * 2 : Nat)) ∧ OwnV wr B (.slice a n cap) n (mkV k cs (j * 2)) ∧ w.grownBy wr (Value.slice a n cap).ownBlock) (fun _ i _ => n - (intOf i).toNat)
  case atStart => exact ⟨0, Nat.zero_le _, rfl, by simp, by (have e : mkV k cs (0 * 2) = cs := by simp [mkV, marks]); rw [e]; exact ho, World.grownBy.refl _ _⟩
  case round =>
    obtain ⟨j, hj, rfl, rfl, hown, hg⟩ := hrel
    by_cases hlt : j < n
    · obtain ⟨g, rfl, hBg, hgs⟩ := hown.head (by omega)
      have hml := mkV_len (k := k) (cs := cs) (m := j * 2) (by rw [HL.out]; omega)
      have hcl := HL.out
      have ⟨c1, f1⟩ := hown.at' (i := j * 2) (by omega)
      have ⟨c2, f2⟩ := hown.at' (i := j * 2 + 1) (by omega)
      have p1 := hown.put (j * 2) (k + (j * 2 : Nat))
      rw [mkV_set (by omega)] at p1
      have p2 := p1.1.put (j * 2 + 1) (k + (j * 2 + 1 : Nat))
      rw [mkV_set (by omega)] at p2
      have P2 := Lib.hid p2.1
      have G2 := Lib.hid (grown_trans (grown_trans hg p1.2) p2.2)
      have e2 : k + ((j * 2 : Nat) : Int) + 1 = k + ((j * 2 + 1 : Nat) : Int) := by omega
      have E2 := Lib.hid e2
      clear hown hg p1 p2 hml hcl e2
      go_wp2
      go_roundw
      case rel =>
        refine ⟨j + 1, by omega, by go_num, val_int (by omega), ?_, ?_⟩
        · have := P2.out; rw [← E2.out] at this; rw [show (j + 1) * 2 = j * 2 + 1 + 1 from by omega]; exact this
        · have := G2.out; rw [← E2.out] at this; exact this
      case measure => simp [intOf]; omega
    · obtain rfl : j = n := by omega
      have e : mkV k cs (j * 2) = marks k (j * 2) := by rw [mkV, List.drop_of_length_le (by rw [HL.out]; omega), List.append_nil]
      rw [e] at hown
      go_wp2
      go_ret
      exact ⟨rfl, hown, hg⟩

theorem heldIntervalS_any (a : Option Addr) (n cap : Nat) (k : Int) (w : World) (h0 : 0 ≤ k) (h1 : k ≤ 1099511627776) (hn : n ≤ 1048576) (hx : Rd w a (marks k (n * 2))) :
    Calls Try.prog 37 #[.slice a n cap, .int .i64 k] w fun e w' => e = .returned (.int .i64 (k + (n * 2 : Nat))) ∧ Below w.heap.size w w' := by
  go_enter Try.func37, Try.ntmps37
  go_wp2_with fail
  go_loop [1, 5] (fun k' i => ∃ j : Nat, j ≤ n ∧ i = .int .i64 j ∧ k' = .int .i64 (k + (j * 2 : Nat))) (fun _ i => n - (intOf i).toNat)
  case atStart => exact ⟨0, Nat.zero_le _, rfl, by simp⟩
  case round =>
    obtain ⟨j, hj, rfl, rfl⟩ := hrel
    by_cases hlt : j < n
    · obtain ⟨b, off, rfl, hbl, hc1, hc2⟩ := hx.pair (marks_len _ _) hlt
      have e1 : lft (marks k (n * 2)) j = k + (j * 2 : Nat) := marks_nth (by omega)
      have e2 : rgt (marks k (n * 2)) j = k + (j * 2 : Nat) + 1 := by
        have := marks_nth (k := k) (n := n * 2) (j := j * 2 + 1) (by omega)
        unfold rgt
        rw [this]; omega
      rw [e1] at hc1
      rw [e2] at hc2
      clear e1 e2
      go_wp2_with fail
      go_round
      case rel => exact ⟨j + 1, by omega, by go_num, val_int (by omega)⟩
      case measure => simp [intOf]; omega
    · obtain rfl : j = n := by omega
      go_wp2_with fail
      go_ret
      exact ⟨rfl, (by repeat (first | exact Below.refl _ _ | assumption | refine Below.alloc ?_ (by first | exact Nat.le_refl _ | (simp only [World.size_alloc, World.size_setCell, World.size_drew]; omega) | omega) _ | refine Below.setCell ?_ (by first | exact Nat.le_refl _ | (simp only [World.size_alloc, World.size_setCell, World.size_drew]; omega) | omega) _ | refine Below.drew ?_))⟩

theorem walk (a0 : Option Addr) (xs0 : List Int) (n0 cap0 : Nat) (i1 : Int) (i2 : Int) (w : World) (hy0 : n0 ≤ 1048576 → Rd w a0 xs0) (hl0 : xs0.length = n0 * 2) (hm0 : n0 ≤ 9223372036854775807) (hi1 : -9223372036854775808 ≤ i1 ∧ i1 ≤ 9223372036854775807) (hi2 : -9223372036854775808 ≤ i2 ∧ i2 ≤ 9223372036854775807) :
    Calls Try.prog 7 #[.slice a0 n0 cap0, .int .i64 i1, .int .i64 i2] w fun e w' => e = .returned (.bool true) ∧ Below w.heap.size w w' := by
  have hR0 : strVN xs0 i1 i2 n0 ≤ 1048576 := strVN_le
  have HL0 := Lib.hid hl0
  clear hl0
  by_cases hs0 : 1048576 < (n0 : Int)
  · go_enter Try.func7, Try.ntmps7
    go_wp2_with fail
    refine (szIntervalS_no (by omega) (by omega) (by omega) hm0).mono ?_
    rintro e w' ⟨rfl, rfl⟩
    go_wp2_with fail
    go_ret
    exact ⟨rfl, (by repeat (first | exact Below.refl _ _ | assumption | refine Below.alloc ?_ (by first | exact Nat.le_refl _ | (simp only [World.size_alloc, World.size_setCell, World.size_drew]; omega) | omega) _ | refine Below.setCell ?_ (by first | exact Nat.le_refl _ | (simp only [World.size_alloc, World.size_setCell, World.size_drew]; omega) | omega) _ | refine Below.drew ?_))⟩
  have hx0 := hy0 (by omega)
  clear hy0
  go_enter Try.func7, Try.ntmps7
  go_wp2_with fail
  refine (szIntervalS_ok (by omega) (by omega)).mono ?_
  rintro e w' ⟨rfl, rfl⟩
  go_wp2_with fail
  refine (toIntervalS_any _ _ _ _ _ (hx0.below (Below.refl _ _)) HL0.out (by omega)).mono ?_
  rintro e w1 ⟨pT0, qT0, rfl, ho, hb⟩
  have ht : Below w.heap.size w w1 := Below.trans (by repeat (first | exact Below.refl _ _ | assumption | refine Below.alloc ?_ (by first | exact Nat.le_refl _ | (simp only [World.size_alloc, World.size_setCell, World.size_drew]; omega) | omega) _ | refine Below.setCell ?_ (by first | exact Nat.le_refl _ | (simp only [World.size_alloc, World.size_setCell, World.size_drew]; omega) | omega) _ | refine Below.drew ?_)) (hb.mono (by first | (simp only [World.size_alloc, World.size_setCell, World.size_drew]; omega) | omega))
  have z1 : w.heap.size ≤ w1.heap.size := ht.size
  have bw1 : Below w.heap.size w w1 := ht
  have T0_1 := ho
  have UT0 := T0_1.cut (Nat.le_refl _)
  clear ho
  clear ht hb
  go_wp2_with fail
  refine (sStretch_any _ _ _ _ _ _ _ ((T0_1.rd (by omega))) HL0.out (by omega) hi1 hi2).mono ?_
  rintro e w2 ⟨pR0, qR0, rfl, ho0, hb⟩
  have ht : Below w1.heap.size w1 w2 := hb
  have z2 : w1.heap.size ≤ w2.heap.size := ht.size
  have bw2 : Below w.heap.size w w2 := bw1.trans (ht.mono bw1.size)
  have T0_2 := T0_1.below ht (Nat.le_refl _)
  clear T0_1
  have R0_2 := ho0
  have UR0 := R0_2.cut (Nat.le_refl _)
  clear ho0
  clear ht hb
  go_wp2_with fail
  clear T0_2 UT0
  refine (toIntervalS_any _ _ _ _ _ (hx0.below bw2) HL0.out (by omega)).mono ?_
  rintro e w3 ⟨pX0, qX0, rfl, ho, hb⟩
  have ht : Below w2.heap.size w2 w3 := hb
  have z3 : w2.heap.size ≤ w3.heap.size := ht.size
  have bw3 : Below w.heap.size w w3 := bw2.trans (ht.mono bw2.size)
  have R0_3 := R0_2.below ht (Nat.le_refl _)
  clear R0_2
  have X0_3 := ho
  have UX0 := X0_3.cut (Nat.le_refl _)
  clear ho
  clear ht hb
  go_wp2_with fail
  refine (iStretch_any _ _ _ _ _ _ _ ((X0_3.rd (by omega))) HL0.out (by omega) hi1 hi2).mono ?_
  rintro e w4 ⟨pG0, qG0, rfl, ho0, hb⟩
  have ht : Below w3.heap.size w3 w4 := hb
  have z4 : w3.heap.size ≤ w4.heap.size := ht.size
  have bw4 : Below w.heap.size w w4 := bw3.trans (ht.mono bw3.size)
  have R0_4 := R0_3.below ht (Nat.le_refl _)
  have X0_4 := X0_3.below ht (Nat.le_refl _)
  clear R0_3 X0_3
  have G0_4 := ho0
  have UG0 := G0_4.cut (Nat.le_refl _)
  clear ho0
  clear ht hb
  go_wp2_with fail
  refine (eqIntervalS_any _ _ (strVL xs0 i1 i2 n0) (strVL xs0 i1 i2 n0) (strVN xs0 i1 i2 n0) (strVN xs0 i1 i2 n0) _ _ _ ((G0_4.rd hR0)) ((R0_4.rd hR0)) (strVL_len _ _ _ _) (strVL_len _ _ _ _) hR0 hR0).mono ?_
  rw [eqL_self]
  rintro e w5 ⟨rfl, hb⟩
  have ht : Below w4.heap.size w4 w5 := hb
  have z5 : w4.heap.size ≤ w5.heap.size := ht.size
  have bw5 : Below w.heap.size w w5 := bw4.trans (ht.mono bw4.size)
  have R0_5 := R0_4.below ht (Nat.le_refl _)
  have X0_5 := X0_4.below ht (Nat.le_refl _)
  have G0_5 := G0_4.below ht (Nat.le_refl _)
  clear R0_4 X0_4 G0_4
  clear ht hb
  go_wp2_with fail
  refine (toIntervalS_any _ _ _ _ _ (hx0.below bw5) HL0.out (by omega)).mono ?_
  rintro e w6 ⟨pY0, qY0, rfl, ho, hb⟩
  have ht : Below w5.heap.size w5 w6 := hb
  have z6 : w5.heap.size ≤ w6.heap.size := ht.size
  have bw6 : Below w.heap.size w w6 := bw5.trans (ht.mono bw5.size)
  have R0_6 := R0_5.below ht (Nat.le_refl _)
  have X0_6 := X0_5.below ht (Nat.le_refl _)
  have G0_6 := G0_5.below ht (Nat.le_refl _)
  clear R0_5 X0_5 G0_5
  have Y0_6 := ho
  have UY0 := Y0_6.cut (Nat.le_refl _)
  clear ho
  clear ht hb
  go_wp2_with fail
  refine (eqIntervalS_any _ _ xs0 xs0 _ _ _ _ _ (X0_6.rd (by omega)) (Y0_6.rd (by omega)) HL0.out HL0.out (by omega) (by omega)).mono ?_
  rw [eqL_self]
  rintro e w7 ⟨rfl, hb⟩
  have ht : Below w6.heap.size w6 w7 := hb
  have z7 : w6.heap.size ≤ w7.heap.size := ht.size
  have bw7 : Below w.heap.size w w7 := bw6.trans (ht.mono bw6.size)
  have R0_7 := R0_6.below ht (Nat.le_refl _)
  have X0_7 := X0_6.below ht (Nat.le_refl _)
  have G0_7 := G0_6.below ht (Nat.le_refl _)
  have Y0_7 := Y0_6.below ht (Nat.le_refl _)
  clear R0_6 X0_6 G0_6 Y0_6
  clear ht hb
  go_wp2_with fail
  clear Y0_7 UY0
  refine (markIntervalS_any _ _ _ _ _ _ _ (by omega) (by omega) (by omega) X0_7).mono ?_
  rintro e w8 ⟨rfl, ho, hg⟩
  have z8 : w7.heap.size ≤ w8.heap.size := hg.size
  have bw8 : Below w.heap.size w w8 := bw7.trans (below_of_grown hg (fun b e => by have := UX0 b e; omega) (by omega))
  have R0_8 := R0_7.kept hg (own_ne (fun c e e2 => by have h1 := UR0 c e; have h2 := UX0 c e2; omega))
  have G0_8 := G0_7.kept hg (own_ne (fun c e e2 => by have h1 := UG0 c e; have h2 := UX0 c e2; omega))
  clear R0_7 X0_7 G0_7 hg
  have X0_8 := ho
  clear ho
  go_wp2_with fail
  refine (eqIntervalS_any _ _ (strVL xs0 i1 i2 n0) (strVL xs0 i1 i2 n0) (strVN xs0 i1 i2 n0) (strVN xs0 i1 i2 n0) _ _ _ ((G0_8.rd hR0)) ((R0_8.rd hR0)) (strVL_len _ _ _ _) (strVL_len _ _ _ _) hR0 hR0).mono ?_
  rw [eqL_self]
  rintro e w9 ⟨rfl, hb⟩
  have ht : Below w8.heap.size w8 w9 := hb
  have z9 : w8.heap.size ≤ w9.heap.size := ht.size
  have bw9 : Below w.heap.size w w9 := bw8.trans (ht.mono bw8.size)
  have R0_9 := R0_8.below ht (Nat.le_refl _)
  have X0_9 := X0_8.below ht (Nat.le_refl _)
  have G0_9 := G0_8.below ht (Nat.le_refl _)
  clear R0_8 X0_8 G0_8
  clear ht hb
  go_wp2_with fail
  refine (markIntervalS_any _ _ _ _ _ _ _ (by omega) (by omega) hR0 G0_9).mono ?_
  rintro e w10 ⟨rfl, ho, hg⟩
  have z10 : w9.heap.size ≤ w10.heap.size := hg.size
  have bw10 : Below w.heap.size w w10 := bw9.trans (below_of_grown hg (fun b e => by have := UG0 b e; omega) (by omega))
  have R0_10 := R0_9.kept hg (own_ne (fun c e e2 => by have h1 := UR0 c e; have h2 := UG0 c e2; omega))
  have X0_10 := X0_9.kept hg (own_ne (fun c e e2 => by have h1 := UX0 c e; have h2 := UG0 c e2; omega))
  clear R0_9 X0_9 G0_9 hg
  have G0_10 := ho
  clear ho
  go_wp2_with fail
  refine (heldIntervalS_any _ _ _ _ _ (by omega) (by omega) hR0 (G0_10.rd hR0)).mono ?_
  rintro e w11 ⟨rfl, hb⟩
  have ht : Below w10.heap.size w10 w11 := hb
  have z11 : w10.heap.size ≤ w11.heap.size := ht.size
  have bw11 : Below w.heap.size w w11 := bw10.trans (ht.mono bw10.size)
  have R0_11 := R0_10.below ht (Nat.le_refl _)
  have X0_11 := X0_10.below ht (Nat.le_refl _)
  have G0_11 := G0_10.below ht (Nat.le_refl _)
  clear R0_10 X0_10 G0_10
  clear ht hb
  go_wp2_with fail
  clear X0_11 UX0
  refine (toIntervalS_any _ _ _ _ _ (hx0.below bw11) HL0.out (by omega)).mono ?_
  rintro e w12 ⟨pV0, qV0, rfl, ho, hb⟩
  have ht : Below w11.heap.size w11 w12 := hb
  have z12 : w11.heap.size ≤ w12.heap.size := ht.size
  have bw12 : Below w.heap.size w w12 := bw11.trans (ht.mono bw11.size)
  have R0_12 := R0_11.below ht (Nat.le_refl _)
  have G0_12 := G0_11.below ht (Nat.le_refl _)
  clear R0_11 G0_11
  have V0_12 := ho
  have UV0 := V0_12.cut (Nat.le_refl _)
  clear ho
  clear ht hb
  go_wp2_with fail
  refine (iStretch_any _ _ _ _ _ _ _ ((V0_12.rd (by omega))) HL0.out (by omega) hi1 hi2).mono ?_
  rintro e w13 ⟨pH0, qH0, rfl, ho0, hb⟩
  have ht : Below w12.heap.size w12 w13 := hb
  have z13 : w12.heap.size ≤ w13.heap.size := ht.size
  have bw13 : Below w.heap.size w w13 := bw12.trans (ht.mono bw12.size)
  have R0_13 := R0_12.below ht (Nat.le_refl _)
  have G0_13 := G0_12.below ht (Nat.le_refl _)
  have V0_13 := V0_12.below ht (Nat.le_refl _)
  clear R0_12 G0_12 V0_12
  have H0_13 := ho0
  have UH0 := H0_13.cut (Nat.le_refl _)
  clear ho0
  clear ht hb
  go_wp2_with fail
  clear V0_13 UV0
  refine (eqIntervalS_any _ _ (strVL xs0 i1 i2 n0) (strVL xs0 i1 i2 n0) (strVN xs0 i1 i2 n0) (strVN xs0 i1 i2 n0) _ _ _ ((H0_13.rd hR0)) ((R0_13.rd hR0)) (strVL_len _ _ _ _) (strVL_len _ _ _ _) hR0 hR0).mono ?_
  rw [eqL_self]
  rintro e w14 ⟨rfl, hb⟩
  have ht : Below w13.heap.size w13 w14 := hb
  have z14 : w13.heap.size ≤ w14.heap.size := ht.size
  have bw14 : Below w.heap.size w w14 := bw13.trans (ht.mono bw13.size)
  have R0_14 := R0_13.below ht (Nat.le_refl _)
  have G0_14 := G0_13.below ht (Nat.le_refl _)
  have H0_14 := H0_13.below ht (Nat.le_refl _)
  clear R0_13 G0_13 H0_13
  clear ht hb
  go_wp2_with fail
  refine (heldIntervalS_any _ _ _ _ _ (by omega) (by omega) hR0 (G0_14.rd hR0)).mono ?_
  rintro e w15 ⟨rfl, hb⟩
  have ht : Below w14.heap.size w14 w15 := hb
  have z15 : w14.heap.size ≤ w15.heap.size := ht.size
  have bw15 : Below w.heap.size w w15 := bw14.trans (ht.mono bw14.size)
  have R0_15 := R0_14.below ht (Nat.le_refl _)
  have G0_15 := G0_14.below ht (Nat.le_refl _)
  have H0_15 := H0_14.below ht (Nat.le_refl _)
  clear R0_14 G0_14 H0_14
  clear ht hb
  go_wp2_with fail
  go_ret
  exact ⟨rfl, bw15⟩

theorem rd_of_trod {H : Type} {enc : TypeId × Value → H} {W : World} {fuel : Nat} {c : Value} {y : DataW H × List MemPlace}
    (h : DataW.trod enc Try.prog W 0 (fun _ => true) true fuel 23 [c] = some y) : ∃ (a : Option Addr) (xs : List Int) (cap : Nat), c = .slice a xs.length cap ∧ Rd W a xs ∧ ∀ k, k < xs.length → (Lit.int .i64 (nth xs k)).wf = true := by
  rcases Go.ChangeShapes.open_ints Try.underlying23 Try.underlying3 (by kernel_rfl) h with ⟨hcs, _⟩ | ⟨x, len, cap, zs, hcs, _, hl, hm, hz, _, hcell, hwf⟩
  · simp only [List.cons.injEq, and_true] at hcs
    exact ⟨none, [], 0, hcs, ⟨by simp, fun k hk => by simp at hk⟩, fun k hk => by simp at hk⟩
  · simp only [List.cons.injEq, and_true] at hcs
    simp only [if_true] at hz
    have hlen : (zs.take len).length = len := by rw [List.length_take]; omega
    have hn : ∀ k, k < len → nth (zs.take len) k = zs.getD k 0 := by
      intro k hk
      simp only [nth, List.getD_eq_getElem?_getD, List.getElem?_take, hk, if_true]
    refine ⟨some x, zs.take len, cap, by rw [hlen]; exact hcs, ⟨by rw [hlen]; unfold maxLen at hm; omega, fun k hk => ?_⟩, fun k hk => ?_⟩
    · rw [hlen] at hk
      obtain ⟨b, off, sp⟩ := x
      have h0 := hcell 0 (by omega)
      have hsp : sp = none := by simpa [Addr.add] using World.cell?_spot h0
      subst hsp
      have hk' := hcell k (by omega)
      rw [Addr.add_lit] at hk'
      exact ⟨b, off, rfl, World.block_lt_of_cell? _ _ h0, by rw [hk', hn k hk]⟩
    · rw [hlen] at hk
      rw [hn k hk]
      have hk2 : k < zs.length := by omega
      exact hwf _ (by rw [List.getD_eq_getElem?_getD, List.getElem?_eq_getElem hk2]; exact List.getElem_mem hk2)

theorem own : ownKnob Try.prog.godebug = none := by kernel_rfl
theorem laidOut : laidOutB Try.prog = true := by kernel_rfl
theorem wf_bd {n : Int} (h : (Lit.int .i64 n).wf = true) : -9223372036854775808 ≤ n ∧ n ≤ 9223372036854775807 := by
  simp [Lit.wf, IntKind.min, IntKind.max, IntKind.bits, IntKind.signed] at h
  omega

theorem rdV_of_trod {H : Type} {enc : TypeId × Value → H} {W : World} {fuel : Nat} {a : Option Addr} {len cap : Nat} {y : DataW H × List MemPlace}
    (h : DataW.trod enc Try.prog W 0 (fun _ => true) true fuel 22 [.slice a len cap] = some y) : ∃ cs : List Int, (len ≤ 1048576 → Rd W a cs) ∧ cs.length = len * 2 ∧ len ≤ 9223372036854775807 := by
  rcases Go.Deep.open_slice_pairs Try.underlying22 Try.underlying46 (by kernel_rfl) rfl rfl (by kernel_rfl) (by kernel_rfl) h with ⟨hcs, _⟩ | ⟨x, len', cap', m, n, V0, V1, D0, D1, P0, P1, hcs, _, hl, hm, hmm, _, hi⟩
  · simp only [List.cons.injEq, and_true, Value.slice.injEq] at hcs
    obtain ⟨rfl, rfl, rfl⟩ := hcs
    exact ⟨[], fun _ => ⟨by simp, fun k hk => by simp at hk⟩, by simp, by omega⟩
  · simp only [List.cons.injEq, and_true, Value.slice.injEq] at hcs
    obtain ⟨rfl, rfl, rfl⟩ := hcs
    simp only [if_true] at hmm
    subst hmm
    have hz : ∀ i, i < len → W.cell? (x.add (i * 2)) = some (.int .i64 (Go.RowKit.intOf (V0 i))) ∧ W.cell? (x.add (i * 2 + 1)) = some (.int .i64 (Go.RowKit.intOf (V1 i))) := by
      intro i hil
      obtain ⟨c0, c1, t0, t1⟩ := hi i (by omega)
      obtain ⟨z0, e0, _, _⟩ := DataW.trod_int Try.underlying3 t0
      obtain ⟨z1, e1, _, _⟩ := DataW.trod_int Try.underlying3 t1
      simp only [List.cons.injEq, and_true] at e0 e1
      rw [c0, c1, e0, e1]
      exact ⟨rfl, rfl⟩
    refine ⟨fmap (fun j => if j % 2 = 0 then Go.RowKit.intOf (V0 (j / 2)) else Go.RowKit.intOf (V1 (j / 2))) (len * 2), fun hs => ⟨by rw [fmap_len]; omega, fun k hk => ?_⟩, fmap_len _ _, by unfold maxLen at hm; omega⟩
    rw [fmap_len] at hk
    obtain ⟨b, off, sp⟩ := x
    have h0 := (hz 0 (by omega)).1
    have hsp : sp = none := by simpa [Addr.add] using World.cell?_spot h0
    subst hsp
    refine ⟨b, off, rfl, World.block_lt_of_cell? _ _ h0, ?_⟩
    rw [fmap_nth _ hk]
    have hk2 := hz (k / 2) (by omega)
    rw [Addr.add_lit, Addr.add_lit] at hk2
    rcases (by omega : k % 2 = 0 ∨ k % 2 = 1) with e | e
    · rw [if_pos e, ← hk2.1]
      congr 2
      omega
    · rw [if_neg (by omega), ← hk2.2]
      congr 2
      omega



open Go.ChangeShapes Go.WideShapes Go.ChangeAt Go.RowKit in
set_option maxRecDepth 100000 in
theorem lifted (os : Os) (started : os.Started) (H : Type) (enc : TypeId × Value → H) :
    ReturnsInHanded {} Try.checked os 7 .any (Rows.fnExactStretchIntervalsSpec.pre6 enc Try.prog Try.f7 Rows.fnExactStretchIntervalsRow.domain false) (Rows.fnExactStretchIntervalsSpec.post enc Try.prog Try.f7 false true false false) := by
  refine returnsInHanded_of_change (C := Try.checked) own started (by kernel_rfl) Try.func7
    (ChangeSpec.witness6 (enc := enc) (C := Try.checked) false ⟨#[], #[.slice none 0 0, .int .i64 0, .int .i64 0], []⟩ 8 (by kernel_rfl) (by kernel_rfl) (by kernel_rfl) (by kernel_rfl)) ?_
  intro W base args ds gs before hval0 hW hcnd _
  have hval : ∀ (j : Nat) t v, Try.f7.params[j]? = some t → args[j]? = some v → Value.okWide Try.prog W .any base t v := hval0
  have hW' := hW
  obtain ⟨p, q, hA0, hV, rfl, hfz, hnd⟩ := hW
  have hA : DataW.TrodAll enc Try.prog W 0 (fun _ => true) true Try.f7.params.toList args.toList ds p := hA0
  rw [Try.params7] at hA hval
  obtain ⟨v0, vs0, d0, ds0, p0, q0, hargs, rfl, rfl, h0, r0⟩ := trodAll_cons hA
  obtain ⟨v1, vs1, d1, ds1, p1, q1, rfl, rfl, rfl, h1, r1⟩ := trodAll_cons r0
  obtain ⟨v2, vs2, d2, ds2, p2, q2, rfl, rfl, rfl, h2, r2⟩ := trodAll_cons r1
  obtain ⟨rfl, rfl, rfl⟩ := trodAll_nil r2
  obtain rfl : args = #[v0, v1, v2] := by cases args; simp_all
  obtain ⟨rfl, rfl⟩ := trodVars_none hV
  have lt0 : ∀ x ∈ p0, x.block < W.heap.size := by obtain ⟨m, hm⟩ := h0; exact DataW.trod_lt m _ _ _ hm
  have lt1 : ∀ x ∈ p1, x.block < W.heap.size := by obtain ⟨m, hm⟩ := h1; exact DataW.trod_lt m _ _ _ hm
  have lt2 : ∀ x ∈ p2, x.block < W.heap.size := by obtain ⟨m, hm⟩ := h2; exact DataW.trod_lt m _ _ _ hm
  obtain ⟨a0, len0, cap0, rfl⟩ := okWide_slice Try.underlying22 (hval 0 22 v0 rfl rfl)
  obtain ⟨xs0, rd0, wl0, ln0⟩ := (by obtain ⟨fu, hf⟩ := h0; simp only [Value.cells] at hf; exact rdV_of_trod hf : ∃ cs : List Int, (len0 ≤ 1048576 → Rd W a0 cs) ∧ cs.length = len0 * 2 ∧ len0 ≤ 9223372036854775807)
  obtain ⟨i1, rfl, hd1, hp1, wf1⟩ := open_int Try.underlying3 (hval 1 3 v1 rfl rfl) h1
  obtain ⟨i2, rfl, hd2, hp2, wf2⟩ := open_int Try.underlying3 (hval 2 3 v2 rfl rfl) h2
  clear hA0 hval0
  refine (walk a0 xs0 len0 cap0 i1 i2 W rd0 wl0 ln0 (wf_bd wf1) (wf_bd wf2)).mono fun e W' ⟨he, bel⟩ => ?_
  subst he
  exact ⟨_, rfl, _, _, _, [], _, [], hW', trodAll_mk1 (shut_bool Try.underlying4 _), (trodAll_cons_mk (Below.trod laidOut (by kernel_rfl) (of_decide_eq_true (by kernel_rfl)) h0 bel lt0) (trodAll_cons_mk (Below.trod laidOut (by kernel_rfl) (of_decide_eq_true (by kernel_rfl)) h1 bel lt1) (trodAll_cons_mk (Below.trod laidOut (by kernel_rfl) (of_decide_eq_true (by kernel_rfl)) h2 bel lt2) trodAll_mk0))), rfl, bel.frame _, fun h => by cases h⟩
theorem proved : Rows.FnExactStretchIntervalsSaid :=
  OpenClaim.holds_of_wide 7 Try.f7 rfl rfl rfl rfl rfl rfl rfl ⟨rfl, rfl, rfl, rfl, rfl⟩ rfl rfl rfl rfl rfl (by kernel_rfl) Try.func7 (by kernel_rfl)
    (of_decide_eq_true (by kernel_rfl)) (by unfold Func.isWrapper; first | (rw [if_pos (by decide +kernel)]; kernel_rfl) | (rw [if_neg (by decide +kernel)]; exact ⟨rfl, rfl⟩))
    (fun os started H enc _ => lifted os started H enc)

end Go.Proofs.Ytonphneolkijcaa.stretchIntervals
