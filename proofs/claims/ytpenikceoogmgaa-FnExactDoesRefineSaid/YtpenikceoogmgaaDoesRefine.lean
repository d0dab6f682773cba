/- PROVED: the law FnExactDoesRefine returns true for every input, and each of its arguments reads afterwards as before. No conditions. -/
import Derived.Test.YtpenikceoogmgaaRows
import Derived.WalkKit
import Derived.WalkSpells
import Derived.WalkLawsBesides
import Derived.Deep.QuietTactic
import Derived.BigQuiet
import Derived.ProofKit
import Derived.OpenShut
import Derived.ShutString
import Derived.ChangeOld
import Derived.Below
import Derived.Lib.SmallJoins
import Derived.Lib.Hide
import Derived.Deep.RegionHeld3
namespace Go.Proofs.Ytpenikceoogmgaa.doesRefine
open Go Go.RowKit
set_option linter.unusedVariables false
set_option linter.unusedSimpArgs false
set_option maxHeartbeats 400000


/-- a number of a list; a plain function, which the walk leaves alone -/
def nth (xs : List Int) (k : Nat) : Int := xs.getD k 0
theorem nth_get (xs : List Int) (k : Nat) (h : k < xs.length) : nth xs k = xs[k] := by simp [nth, h]
/-- the slice at an address reads as a list -/
structure Rd (w : World) (a : Option Addr) (xs : List Int) : Prop where
  len : xs.length ≤ 9223372036854775807
  cell : ∀ k, k < xs.length → ∃ b off, a = some ⟨b, off, none⟩ ∧ b < w.heap.size ∧ w.cell? ⟨b, off + k, none⟩ = some (.int .i64 (nth xs k))
theorem Rd.below {w w' : World} {a : Option Addr} {xs : List Int} (h : Rd w a xs) (hb : Below w.heap.size w w') : Rd w' a xs :=
  ⟨h.len, fun k hk => by
    obtain ⟨b, off, e, hl, hc⟩ := h.cell k hk
    exact ⟨b, off, e, Nat.lt_of_lt_of_le hl hb.size, (hb.cell (World.block_lt_of_cell? _ _ hc)).trans hc⟩⟩
theorem Rd.mid {w w1 w2 : World} {a : Option Addr} {xs : List Int} {B : Nat} (h : Rd w a xs) (hb : Below B w1 w2) (hB : w.heap.size ≤ B) (h1 : Rd w1 a xs) : Rd w2 a xs :=
  ⟨h.len, fun k hk => by
    obtain ⟨b, off, e, hl, hc⟩ := h.cell k hk
    obtain ⟨b', off', e', hl', hc'⟩ := h1.cell k hk
    rw [e] at e'
    simp only [Option.some.injEq, Addr.mk.injEq, and_true] at e'
    obtain ⟨rfl, rfl⟩ := e'
    exact ⟨b, off, e, Nat.lt_of_lt_of_le hl' hb.size, (hb.cell (by show b < B; omega)).trans hc'⟩⟩
theorem Rd.alloc {w : World} {a : Option Addr} {xs : List Int} (h : Rd w a xs) (o : Obj) : Rd (w.alloc o) a xs :=
  h.below ((Below.refl _ _).alloc (Nat.le_refl _) o)
theorem Rd.same {w w' : World} {a : Option Addr} {xs : List Int} (h : Rd w a xs) (hs : w.heap.size ≤ w'.heap.size)
    (hb : ∀ b off, a = some ⟨b, off, none⟩ → w'.heap[b]? = w.heap[b]?) : Rd w' a xs :=
  ⟨h.len, fun k hk => by
    obtain ⟨b, off, e, hl, hc⟩ := h.cell k hk
    exact ⟨b, off, e, Nat.lt_of_lt_of_le hl hs, (World.cell?_of_block (w := w) (a := ⟨b, off + k, none⟩) (hb b off e)).trans hc⟩⟩
/-- a slice value that owns the row of these integers, in a block from B on -/
def OwnI (w : World) (B : Nat) (v : Value) (xs : List Int) : Prop := w.ownsRow B 3 1 v xs.length (xs.map (Value.int .i64))
theorem OwnI.form {w : World} {B : Nat} {v : Value} {xs : List Int} (h : OwnI w B v xs) : ∃ a cap, v = .slice a xs.length cap := by
  rcases h.2 with ⟨rfl, h0⟩ | ⟨g, cap, cur, rfl, _⟩
  · exact ⟨none, 0, by rw [h0]⟩
  · exact ⟨_, _, rfl⟩
theorem OwnI.rd {w : World} {B n cap : Nat} {a : Option Addr} {xs : List Int} (h : OwnI w B (.slice a n cap) xs) : Rd w a xs := by
  rcases h.2 with ⟨e, h0⟩ | ⟨g, cap', cur, e, hb, hg, hn, hm, hs, ht⟩
  · exact ⟨by omega, fun k hk => by omega⟩
  · simp only [Value.slice.injEq] at e
    obtain ⟨rfl, rfl, rfl⟩ := e
    refine ⟨by unfold maxLen at hm; omega, fun k hk => ⟨g, 0, rfl, (Array.getElem?_eq_some_iff.1 hg).1, ?_⟩⟩
    have := World.ownsRow.cellAt h k (by omega)
    rw [Nat.zero_add, this]
    simp [nth, hk]
theorem OwnI.blk {w : World} {B n cap : Nat} {a : Option Addr} {xs : List Int} (h : OwnI w B (.slice a n cap) xs) : ∀ b off s, a = some ⟨b, off, s⟩ → B ≤ b ∧ b < w.heap.size := by
  intro b off s e
  subst e
  exact World.ownsRow.lt h b rfl
theorem OwnI.kept {w w' : World} {B : Nat} {v : Value} {xs : List Int} {row : Option Nat} (h : OwnI w B v xs) (hg : w.grownBy w' row) (hne : v.ownBlock = none ∨ v.ownBlock ≠ row) : OwnI w' B v xs := World.ownsRow.kept h hg hne
theorem OwnI.mono {w : World} {B B' : Nat} {v : Value} {xs : List Int} (h : OwnI w B v xs) (hB : B' ≤ B) : OwnI w B' v xs := by
  refine ⟨h.1, ?_⟩
  rcases h.2 with hn | ⟨g, cap, cur, e, hb, rest⟩
  · exact .inl hn
  · exact .inr ⟨g, cap, cur, e, by omega, rest⟩
theorem OwnI.below {w w' : World} {B B' : Nat} {v : Value} {xs : List Int} (h : OwnI w B v xs) (hb : Below B' w w') (hB : w.heap.size ≤ B') : OwnI w' B v xs := by
  refine ⟨h.1, ?_⟩
  rcases h.2 with hn | ⟨g, cap, cur, e, hb', hg, rest⟩
  · exact .inl hn
  · refine .inr ⟨g, cap, cur, e, hb', ?_, rest⟩
    rw [hb.block g (by have := (Array.getElem?_eq_some_iff.1 hg).1; omega)]
    exact hg
theorem ret_bool {a b : Bool} (h : a = b) : Ending.returned (.bool a) = .returned (.bool b) := by rw [h]
theorem ret_int {a b : Int} (h : a = b) : Ending.returned (.int .i64 a) = .returned (.int .i64 b) := by rw [h]
theorem val_int {a b : Int} (h : a = b) : Value.int .i64 a = .int .i64 b := by rw [h]
theorem grown_below {w w' : World} {g : Nat} (h : w.grownBy w' (some g)) (B : Nat) (hB : B ≤ g) (hs : B ≤ w.heap.size) : Below B w w' :=
  ⟨h.os, h.tape, h.output, h.size, fun k hk => h.block k (by omega) (by intro e; simp only [Option.some.injEq] at e; omega)⟩
theorem below_grown {w w' : World} {B : Nat} (h : Below B w w') (hB : w.heap.size ≤ B) (row : Option Nat) : w.grownBy w' row :=
  ⟨h.os, h.tape, h.output, h.size, fun k hk _ => h.block k (by omega)⟩
theorem bcell {W w1 : World} (hb : Below W.heap.size W w1) : (∀ b o, b < W.heap.size → w1.cell? ⟨b, o, none⟩ = W.cell? ⟨b, o, none⟩) ∧ (∀ b o, b < W.heap.size → w1.frozen? ⟨b, o, none⟩ = W.frozen? ⟨b, o, none⟩) :=
  ⟨fun b o h => hb.cell (p := ⟨b, o, none⟩) h, fun b o h => hb.frozen (p := ⟨b, o, none⟩) h⟩
theorem infoInt : (Try.prog.info? 3).map (fun i => (i.zero, i.size, i.bytes)) = some (some (.int .i64 0), 1, 8) := by kernel_rfl
theorem OwnI.setBelow {w : World} {B : Nat} {v : Value} {xs : List Int} (h : OwnI w B v xs) {p : Addr} (hp : p.block < B) (u : Value) : OwnI (w.setCell p u) B v xs := ownsRow_setCell_below h hp u
theorem OwnI.alloc {w : World} {B : Nat} {v : Value} {xs : List Int} (h : OwnI w B v xs) (o : Obj) : OwnI (w.alloc o) B v xs := h.below ((Below.refl _ _).alloc (Nat.le_refl _) o) (Nat.le_refl _)
theorem Below.mono' {B B' : Nat} {w w' : World} (h : Below B w w') (hB : B' ≤ B) : Below B' w w' := h.mono hB
/-- a block that holds two cells -/
def Box2 (w : World) (b : Nat) (u v : Value) : Prop := b < w.heap.size ∧ w.cell? ⟨b, 0, none⟩ = some u ∧ w.cell? ⟨b, 1, none⟩ = some v
theorem Box2.below {w w' : World} {b : Nat} {u v : Value} (h : Box2 w b u v) (hb : Below w.heap.size w w') : Box2 w' b u v :=
  ⟨Nat.lt_of_lt_of_le h.1 hb.size, (hb.cell (p := ⟨b, 0, none⟩) h.1).trans h.2.1, (hb.cell (p := ⟨b, 1, none⟩) h.1).trans h.2.2⟩
theorem Box2.new (w : World) (u v : Value) (t : TypeId) : Box2 (w.alloc (.cells #[u, v] t)) w.heap.size u v :=
  ⟨by simp, by simp, by simp⟩
theorem Box2.kept {w w' : World} {b : Nat} {u v : Value} {row : Option Nat} (h : Box2 w b u v) (hg : w.grownBy w' row) (hne : some b ≠ row) : Box2 w' b u v :=
  ⟨Nat.lt_of_lt_of_le h.1 hg.size, hg.cell h.2.1 hne, hg.cell h.2.2 hne⟩
theorem OwnI.lt {w : World} {B : Nat} {v : Value} {xs : List Int} (h : OwnI w B v xs) : ∀ b, v.ownBlock = some b → B ≤ b ∧ b < w.heap.size := World.ownsRow.lt h
theorem OwnI.cut {w : World} {B : Nat} {v : Value} {xs : List Int} (h : OwnI w B v xs) {U : Nat} (hU : w.heap.size ≤ U) : ∀ b, v.ownBlock = some b → B ≤ b ∧ b < U := fun b e => ⟨(h.lt b e).1, Nat.lt_of_lt_of_le (h.lt b e).2 hU⟩
/-- a block of two cells that may be written -/
def Var2 (w : World) (b : Nat) (u v : Value) : Prop := Box2 w b u v ∧ w.frozen? ⟨b, 0, none⟩ = false ∧ w.frozen? ⟨b, 1, none⟩ = false
theorem Var2.below {w w' : World} {b : Nat} {u v : Value} (h : Var2 w b u v) (hb : Below w.heap.size w w') : Var2 w' b u v :=
  ⟨h.1.below hb, (hb.frozen (p := ⟨b, 0, none⟩) h.1.1).trans h.2.1, (hb.frozen (p := ⟨b, 1, none⟩) h.1.1).trans h.2.2⟩
theorem Var2.new (w : World) (u v : Value) (t : TypeId) : Var2 (w.alloc (.cells #[u, v] t)) w.heap.size u v :=
  ⟨Box2.new w u v t, by simp, by simp⟩
theorem Var2.alloc {w : World} {b : Nat} {u v : Value} (h : Var2 w b u v) (o : Obj) : Var2 (w.alloc o) b u v := h.below ((Below.refl _ _).alloc (Nat.le_refl _) o)
theorem Var2.kept {w w' : World} {b : Nat} {u v : Value} {row : Option Nat} (h : Var2 w b u v) (hg : w.grownBy w' row) (hne : some b ≠ row) : Var2 w' b u v :=
  ⟨h.1.kept hg hne, (World.frozen?_of_block (w := w) (a := ⟨b, 0, none⟩) (hg.block b h.1.1 hne)).trans h.2.1, (World.frozen?_of_block (w := w) (a := ⟨b, 1, none⟩) (hg.block b h.1.1 hne)).trans h.2.2⟩
theorem Var2.set {w : World} {b : Nat} {u v : Value} (h : Var2 w b u v) (u' v' : Value) : Var2 ((w.setCell ⟨b, 0, none⟩ u').setCell ⟨b, 1, none⟩ v') b u' v' := by
  refine ⟨⟨by simpa using h.1.1, ?_, ?_⟩, by simpa using h.2.1, by simpa using h.2.2⟩
  · rw [World.cell?_setCell_other _ _ _ _ (by simp), World.cell?_setCell_same _ _ _ h.1.2.1]
  · rw [World.cell?_setCell_same _ _ _ (u := v) (by rw [World.cell?_setCell_other _ _ _ _ (by simp)]; exact h.1.2.2)]
theorem grown_set (w : World) (p : Addr) (u : Value) : w.grownBy (w.setCell p u) (some p.block) :=
  ⟨rfl, rfl, rfl, by simp, fun k hk hn => Below.heap_setCell w p u k (fun e => hn (by rw [e]))⟩
theorem Var2.set1 {w : World} {b : Nat} {u v : Value} (h : Var2 w b u v) (v' : Value) : Var2 (w.setCell ⟨b, 1, none⟩ v') b u v' := by
  refine ⟨⟨by simpa using h.1.1, ?_, ?_⟩, by simpa using h.2.1, by simpa using h.2.2⟩
  · rw [World.cell?_setCell_other _ _ _ _ (by simp)]; exact h.1.2.1
  · rw [World.cell?_setCell_same _ _ _ h.1.2.2]
theorem Box2.set {w : World} {b : Nat} {u v : Value} (h : Box2 w b u v) {p : Addr} (x : Value) (hne : b ≠ p.block) : Box2 (w.setCell p x) b u v :=
  h.kept (grown_set w p x) (by simpa using hne)
theorem Var2.other {w : World} {b : Nat} {u v : Value} (h : Var2 w b u v) {p : Addr} (x : Value) (hne : b ≠ p.block) : Var2 (w.setCell p x) b u v :=
  h.kept (grown_set w p x) (by simpa using hne)
theorem ne_own {v : Value} {b : Nat} (h : ∀ c, v.ownBlock = some c → c ≠ b) : some b ≠ v.ownBlock := fun e => h b e.symm rfl
theorem grown_alloc_set {w w1 : World} {r : Option Nat} {o : Obj} (h : (w.alloc o).grownBy w1 r) : w.grownBy w1 r :=
  ⟨h.os, h.tape, h.output, by have := h.size; simp at this; omega, fun k hk hn => (h.block k (by simp; omega) hn).trans (Below.heap_alloc w o k hk)⟩
theorem grown_trans {w w1 w2 : World} {r : Option Nat} (h1 : w.grownBy w1 r) (h2 : w1.grownBy w2 r) : w.grownBy w2 r :=
  ⟨h2.os.trans h1.os, h2.tape.trans h1.tape, h2.output.trans h1.output, Nat.le_trans h1.size h2.size, fun k hk hn => (h2.block k (by have := h1.size; omega) hn).trans (h1.block k hk hn)⟩
theorem OwnI.nil (w : World) (B : Nat) : OwnI w B (.slice none 0 0) [] := World.ownsRow_nil _ _ _ _
theorem below_of_grown {w w' : World} {v : Value} {B : Nat} (hg : w.grownBy w' v.ownBlock) (hB : ∀ b, v.ownBlock = some b → B ≤ b) (hs : B ≤ w.heap.size) : Below B w w' :=
  ⟨hg.os, hg.tape, hg.output, hg.size, fun k hk => hg.block k (by omega) (fun e => by have := hB k e.symm; omega)⟩

def szF (left : Int) (n : Nat) : Int := if left - n < 0 then -1 else left - n
theorem szIntS_any (a : Option Addr) (n cap : Nat) (l : Int) (w : World) (h0 : 0 ≤ l) (h1 : l ≤ 1048576) (hn : n ≤ 9223372036854775807) :
    Calls Try.prog 50 #[.slice a n cap, .int .i64 l] w fun e w' => e = .returned (.int .i64 (szF l n)) ∧ w = w' := by
  by_cases h : l - n < 0
  · go_enter Try.func50, Try.ntmps50
    go_wp2
    go_ret
    exact ⟨ret_int (by simp [szF, h]), rfl⟩
  · go_enter Try.func50, Try.ntmps50
    go_wp2
    go_ret
    exact ⟨ret_int (by rw [szF, if_neg (by omega)]), rfl⟩

theorem szOrder_any (n : Int) (a : Option Addr) (len cap : Nat) (l : Int) (w : World) (h0 : 0 ≤ l) (h1 : l ≤ 1048576) (hn : len ≤ 9223372036854775807) :
    Calls Try.prog 13 #[.agg #[.int .i64 n, .slice a len cap], .int .i64 l] w fun e w' => e = .returned (.int .i64 (szF l len)) ∧ Below w.heap.size w w' := by
  by_cases h : l - len < 0
  · have hs : szF l len = -1 := by simp [szF, h]
    rw [hs]
    have HS := Lib.hid hs
    clear hs
    go_enter Try.func13, Try.ntmps13
    go_wp2_with (go_at_call 50; refine (szIntS_any _ _ _ _ _ h0 h1 hn).mono ?_; rintro e w' ⟨rfl, rfl⟩; rw [HS.out])
    go_ret
    exact ⟨rfl, (Below.refl _ _).alloc (Nat.le_refl _) _⟩
  · have hs : szF l len = l - len := by rw [szF, if_neg (by omega)]
    have hp : 0 ≤ szF l len := by omega
    clear hs
    go_enter Try.func13, Try.ntmps13
    go_wp2_with (go_at_call 50; refine (szIntS_any _ _ _ _ _ h0 h1 hn).mono ?_; rintro e w' ⟨rfl, rfl⟩)
    go_ret
    exact ⟨rfl, (Below.refl _ _).alloc (Nat.le_refl _) _⟩

theorem szOrder_ok {n : Int} {a : Option Addr} {len cap : Nat} {l : Int} {w : World} (h1 : l ≤ 1048576) (h : len ≤ l) :
    Calls Try.prog 13 #[.agg #[.int .i64 n, .slice a len cap], .int .i64 l] w fun e w' => e = .returned (.int .i64 (l - len)) ∧ Below w.heap.size w w' :=
  (szOrder_any n a len cap l w (by omega) h1 (by omega)).mono (fun e w' hh => ⟨by rw [hh.1, szF, if_neg (by omega)], hh.2⟩)
theorem szOrder_no {n : Int} {a : Option Addr} {len cap : Nat} {l : Int} {w : World} (h0 : 0 ≤ l) (h1 : l ≤ 1048576) (h : l < len) (hl : len ≤ 9223372036854775807) :
    Calls Try.prog 13 #[.agg #[.int .i64 n, .slice a len cap], .int .i64 l] w fun e w' => e = .returned (.int .i64 (-1)) ∧ Below w.heap.size w w' :=
  (szOrder_any n a len cap l w h0 h1 hl).mono (fun e w' hh => ⟨by rw [hh.1, szF, if_pos (by omega)], hh.2⟩)

theorem set_step (xs : List Int) (k : Nat) (h : k < xs.length) :
    ((xs.take k ++ List.replicate (xs.length - k) (0:Int)).map (Value.int .i64)).set k (.int .i64 (nth xs k)) = (xs.take (k+1) ++ List.replicate (xs.length - (k+1)) (0:Int)).map (Value.int .i64) := by
  apply List.ext_getElem?
  intro j
  have hk : (xs.take k).length = k := by simp; omega
  have hk1 : (xs.take (k+1)).length = k+1 := by simp; omega
  rw [List.getElem?_set]
  by_cases hj : k = j
  · subst hj
    rw [if_pos rfl, if_pos (by simp; omega), List.getElem?_map, List.getElem?_append_left (by omega)]
    simp [nth, h]
  · simp only [hj, if_false, List.getElem?_map, List.getElem?_append, hk, hk1, List.getElem?_take, List.getElem?_replicate]
    by_cases h1 : j < k
    · have h2 : j < k + 1 := by omega
      simp [h1, h2]
    · have h2 : ¬ j < k + 1 := by omega
      have h3 : j - k < xs.length - k ↔ j - (k+1) < xs.length - (k+1) := by omega
      simp [h1, h2, h3]
theorem toIntS_any (a : Option Addr) (xs : List Int) (cap : Nat) (w : World) (hx : Rd w a xs) (hn : xs.length ≤ 1048576) :
    Calls Try.prog 52 #[.slice a xs.length cap] w fun e w' => ∃ a' cap', e = .returned (.slice a' xs.length cap') ∧ OwnI w' w.heap.size (.slice a' xs.length cap') xs ∧ Below w.heap.size w w' := by
  obtain ⟨i0, hi, hz0, hz1, hz2⟩ := info_parts infoInt
  go_enter Try.func52, Try.ntmps52
  go_wp2_with (at_make; refine wpList_make_full _ rfl (.tmp 6) (.tmp 6) 22 rfl w.heap.size 3 i0 (.int .i64 0) 1 Try.underlying22 hi hz0 hz1 .i64 .i64 _ _ xs.length rfl rfl rfl rfl (by rw [hz2]; omega) (by unfold maxLen; omega) (Nat.le_refl _) ?_; intro w1 hown hgrow)
  have hb0 : Below w.heap.size w w1 := (Below.refl _ _).grown hgrow (Nat.le_refl _) (fun k h => by cases h)
  have hown0 : w1.ownsRow w.heap.size 3 1 (.slice (some ⟨w.heap.size, 0, none⟩) xs.length xs.length) xs.length ((xs.take 0 ++ List.replicate (xs.length - 0) (0:Int)).map (Value.int .i64)) := by
    simpa [Value.cells, toList_madeCells_one] using hown
  clear hown hgrow
  have hz : w.heap.size < w1.heap.size := by
    have := (World.ownsRow.lt hown0 w.heap.size rfl).2
    omega
  go_loopw [4] (fun i wr => ∃ k : Nat, k ≤ xs.length ∧ i = .int .i64 k ∧ wr.ownsRow w.heap.size 3 1 (.slice (some ⟨w.heap.size, 0, none⟩) xs.length xs.length) xs.length ((xs.take k ++ List.replicate (xs.length - k) (0:Int)).map (Value.int .i64)) ∧ Below w.heap.size w wr) (fun i _ => xs.length - (intOf i).toNat)
  case atStart => exact ⟨0, Nat.zero_le _, rfl, hown0, hb0⟩
  case round =>
    obtain ⟨k, hk, rfl, hown, hb⟩ := hrel
    by_cases hlt : k < xs.length
    · obtain ⟨b, off, rfl, hbl, hc⟩ := hx.cell k hlt
      have hc1 := (hb.cell (p := ⟨b, off + k, none⟩) hbl).trans hc
      have hst := World.ownsRow.stored hown k (.int .i64 (nth xs k))
      rw [set_step xs k hlt] at hst
      have hcc := World.ownsRow.cellAt hown k (by omega)
      have hfr := World.ownsRow.frozenAt hown k
      have hcc' : ∃ u, wr.cell? ⟨w.heap.size, k, none⟩ = some u := by
        rw [hcc]
        exact ⟨_, List.getElem?_eq_getElem (by simp; omega)⟩
      obtain ⟨u, hu⟩ := hcc'
      have Hst := Lib.hid hst
      clear hst hcc hown hc
      go_wp2
      go_roundw
      case rel => exact ⟨k + 1, by omega, by go_num, Hst.out.1, hb.setCell (Nat.le_refl _) _⟩
      case measure => simp [intOf]; omega
    · obtain rfl : k = xs.length := by omega
      go_wp2
      go_ret
      refine ⟨_, _, rfl, ?_, hb⟩
      have : xs.take xs.length ++ List.replicate (xs.length - xs.length) (0:Int) = xs := by simp
      rw [this] at hown
      exact hown

theorem toOrder_any (n : Int) (a : Option Addr) (xs : List Int) (cap : Nat) (w : World) (hx : Rd w a xs) (hn : xs.length ≤ 1048576) :
    Calls Try.prog 15 #[.agg #[.int .i64 n, .slice a xs.length cap]] w fun e w' => ∃ a' cap', e = .returned (.agg #[.int .i64 n, .slice a' xs.length cap']) ∧ OwnI w' w.heap.size (.slice a' xs.length cap') xs ∧ Below w.heap.size w w' := by
  go_enter Try.func15, Try.ntmps15
  go_wp2_with fail
  refine (toIntS_any _ _ _ _ (hx.below (by repeat (first | exact Below.refl _ _ | assumption | refine Below.alloc ?_ (by first | exact Nat.le_refl _ | (simp only [World.size_alloc, World.size_setCell, World.size_drew]; omega) | omega) _ | refine Below.setCell ?_ (by first | exact Nat.le_refl _ | (simp only [World.size_alloc, World.size_setCell, World.size_drew]; omega) | omega) _ | refine Below.drew ?_))) hn).mono ?_
  rintro e w1 ⟨a', cap', rfl, hown, hb⟩
  obtain ⟨hc, hf⟩ := bcell hb
  have hz := hb.size
  simp only [World.size_alloc, World.size_setCell] at hz
  go_wp2
  have hown' := ((((hown.setBelow (p := ⟨w.heap.size + 1 + 1, 1, none⟩) (by first | (simp only [World.size_alloc, World.size_setCell, World.size_drew]; omega) | omega) (.slice a' xs.length cap')).setBelow (p := ⟨w.heap.size + 1, 0, none⟩) (by first | (simp only [World.size_alloc, World.size_setCell, World.size_drew]; omega) | omega) (.int .i64 n)).setBelow (p := ⟨w.heap.size + 1, 1, none⟩) (by first | (simp only [World.size_alloc, World.size_setCell, World.size_drew]; omega) | omega) (.slice a' xs.length cap'))).mono (B' := w.heap.size) (by first | (simp only [World.size_alloc, World.size_setCell, World.size_drew]; omega) | omega)
  have hb' : Below w.heap.size w w1 := Below.trans (by repeat (first | exact Below.refl _ _ | assumption | refine Below.alloc ?_ (by first | exact Nat.le_refl _ | (simp only [World.size_alloc, World.size_setCell, World.size_drew]; omega) | omega) _ | refine Below.setCell ?_ (by first | exact Nat.le_refl _ | (simp only [World.size_alloc, World.size_setCell, World.size_drew]; omega) | omega) _ | refine Below.drew ?_)) (hb.mono (by first | (simp only [World.size_alloc, World.size_setCell, World.size_drew]; omega) | omega))
  refine bodyPost_ret (v := .agg #[.int .i64 n, .slice a' xs.length cap']) (by simp [results, Try.results15, go_sem, hc]) rfl ⟨a', cap', rfl, hown', ?_⟩
  exact ((hb'.setCell (by first | exact Nat.le_refl _ | (simp only [World.size_alloc, World.size_setCell, World.size_drew]; omega) | omega) _).setCell (by first | exact Nat.le_refl _ | (simp only [World.size_alloc, World.size_setCell, World.size_drew]; omega) | omega) _).setCell (by first | exact Nat.le_refl _ | (simp only [World.size_alloc, World.size_setCell, World.size_drew]; omega) | omega) _

def eqL (xs ys : List Int) : Bool := decide (xs = ys)
theorem eqIntS_any (a b : Option Addr) (xs ys : List Int) (ca cb : Nat) (w : World) (hx : Rd w a xs) (hy : Rd w b ys) :
    Calls Try.prog 31 #[.slice a xs.length ca, .slice b ys.length cb] w fun e w' => e = .returned (.bool (eqL xs ys)) ∧ Below w.heap.size w w' := by
  have hlx := hx.len
  have hly := hy.len
  by_cases hl : xs.length = ys.length
  · have hl' : ((xs.length : Int) != (ys.length : Int)) = false := by simp [hl]
    go_enter Try.func31, Try.ntmps31
    have HL := Lib.hid hl
    clear hl
    go_wp2_with fail
    go_loopw [5] (fun i wr => ∃ k : Nat, k ≤ xs.length ∧ i = .int .i64 k ∧ xs.take k = ys.take k ∧ Below w.heap.size w wr) (fun i _ => xs.length - (intOf i).toNat)
    case atStart => exact ⟨0, Nat.zero_le _, rfl, rfl, Below.refl _ _⟩
    case round =>
      obtain ⟨k, hk, rfl, htk, hb⟩ := hrel
      have HT := Lib.hid htk
      clear htk
      by_cases hlt : k < xs.length
      · have hlt' : k < ys.length := by rw [← HL.out]; exact hlt
        obtain ⟨b1, o1, rfl, hb1, hc1⟩ := (hx.below hb).cell k hlt
        obtain ⟨b2, o2, rfl, hb2, hc2⟩ := (hy.below hb).cell k hlt'
        by_cases he : nth xs k = nth ys k
        · have he' : (nth xs k != nth ys k) = false := by simp [he]
          have HE := Lib.hid he
          clear he
          go_wp2_with fail
          go_quiet (fail)
          go_wp2_with fail
          go_roundw
          case rel =>
            refine ⟨k + 1, by omega, by go_num, ?_, by exact hb.trans (Joins.below_draws _ _ _)⟩
            rw [List.take_succ_eq_append_getElem hlt, List.take_succ_eq_append_getElem hlt', HT.out, ← nth_get, ← nth_get, HE.out]
          case measure => simp [intOf]; omega
        · have he' : (nth xs k != nth ys k) = true := by simp [he]
          have hne : eqL xs ys = false := by
            simp only [eqL, decide_eq_false_iff_not]
            intro e
            subst e
            exact he rfl
          have HN := Lib.hid hne
          clear he hne
          go_wp2_with fail
          go_quiet (fail)
          go_wp2_with fail
          go_ret
          exact ⟨ret_bool HN.out.symm, hb.trans (Joins.below_draws _ _ _)⟩
      · go_wp2_with fail
        go_ret
        refine ⟨ret_bool ?_, hb⟩
        have h1 := HT.out
        rw [List.take_of_length_le (by omega), List.take_of_length_le (by rw [← HL.out]; omega)] at h1
        simp [eqL, h1]
  · have hl' : ((xs.length : Int) != (ys.length : Int)) = true := by simp; omega
    have hne : eqL xs ys = false := by
      simp only [eqL, decide_eq_false_iff_not]
      intro e
      exact hl (by rw [e])
    have HN := Lib.hid hne
    clear hl hne
    go_enter Try.func31, Try.ntmps31
    go_wp2_with fail
    go_ret
    exact ⟨ret_bool HN.out.symm, Below.refl _ _⟩
theorem eqL_self (xs : List Int) : eqL xs xs = true := by simp [eqL]

def eqO (n : Int) (xs : List Int) (m : Int) (ys : List Int) : Bool := decide (n = m) && eqL xs ys
theorem eqO_refl (n : Int) (xs : List Int) : eqO n xs n xs = true := by simp [eqO, eqL]
theorem eqOrder_any (n m : Int) (a b : Option Addr) (xs ys : List Int) (ca cb : Nat) (w : World) (hx : Rd w a xs) (hy : Rd w b ys) :
    Calls Try.prog 17 #[.agg #[.int .i64 n, .slice a xs.length ca], .agg #[.int .i64 m, .slice b ys.length cb]] w fun e w' => e = .returned (.bool (eqO n xs m ys)) ∧ Below w.heap.size w w' := by
  by_cases hn : n = m
  · have hn' : (n != m) = false := by simp [hn]
    have HN := Lib.hid hn
    clear hn
    cases he : eqL xs ys
    all_goals
      have HO : Hid (eqO n xs m ys = eqL xs ys) := by simp [Hid, eqO, HN.out]
      have HE := Lib.hid he
      clear he
      go_enter Try.func17, Try.ntmps17
      go_wp2_with fail
      refine (eqIntS_any _ _ xs ys _ _ _ (hx.below (by repeat (first | exact Below.refl _ _ | assumption | refine Below.alloc ?_ (by first | exact Nat.le_refl _ | (simp only [World.size_alloc, World.size_setCell, World.size_drew]; omega) | omega) _ | refine Below.setCell ?_ (by first | exact Nat.le_refl _ | (simp only [World.size_alloc, World.size_setCell, World.size_drew]; omega) | omega) _ | refine Below.drew ?_))) (hy.below (by repeat (first | exact Below.refl _ _ | assumption | refine Below.alloc ?_ (by first | exact Nat.le_refl _ | (simp only [World.size_alloc, World.size_setCell, World.size_drew]; omega) | omega) _ | refine Below.setCell ?_ (by first | exact Nat.le_refl _ | (simp only [World.size_alloc, World.size_setCell, World.size_drew]; omega) | omega) _ | refine Below.drew ?_)))).mono ?_
      rintro e w1 ⟨rfl, hb⟩
      rw [HE.out]
      obtain ⟨hc, hf⟩ := bcell hb
      go_wp2_with fail
      go_ret
      exact ⟨ret_bool (by rw [HO.out, HE.out]), Below.trans (by repeat (first | exact Below.refl _ _ | assumption | refine Below.alloc ?_ (by first | exact Nat.le_refl _ | (simp only [World.size_alloc, World.size_setCell, World.size_drew]; omega) | omega) _ | refine Below.setCell ?_ (by first | exact Nat.le_refl _ | (simp only [World.size_alloc, World.size_setCell, World.size_drew]; omega) | omega) _ | refine Below.drew ?_)) (hb.mono (by first | (simp only [World.size_alloc, World.size_setCell, World.size_drew]; omega) | omega))⟩
  · have hn' : (n != m) = true := by simp [hn]
    have HO : Hid (eqO n xs m ys = false) := by simp [Hid, eqO, hn]
    clear hn
    go_enter Try.func17, Try.ntmps17
    go_wp2_with fail
    go_ret
    exact ⟨ret_bool HO.out.symm, (by repeat (first | exact Below.refl _ _ | assumption | refine Below.alloc ?_ (by first | exact Nat.le_refl _ | (simp only [World.size_alloc, World.size_setCell, World.size_drew]; omega) | omega) _ | refine Below.setCell ?_ (by first | exact Nat.le_refl _ | (simp only [World.size_alloc, World.size_setCell, World.size_drew]; omega) | omega) _ | refine Below.drew ?_))⟩

/-- the list of f 0, .., f (k - 1) -/
def fmap (f : Nat → Int) (k : Nat) : List Int := (List.range k).map f
theorem fmap_len (f : Nat → Int) (k : Nat) : (fmap f k).length = k := by simp [fmap]
theorem fmap_nth (f : Nat → Int) {k i : Nat} (h : i < k) : nth (fmap f k) i = f i := by simp [nth, fmap, h]
theorem fmap_succ (f : Nat → Int) (k : Nat) : fmap f (k+1) = fmap f k ++ [f k] := by simp [fmap, List.range_succ]
/-- one store more into a row that was made -/
theorem fill_step (f : Nat → Int) (m k : Nat) (h : k < m) :
    ((fmap f k ++ List.replicate (m - k) (0:Int)).map (Value.int .i64)).set k (.int .i64 (f k)) = (fmap f (k+1) ++ List.replicate (m - (k+1)) (0:Int)).map (Value.int .i64) := by
  apply List.ext_getElem?
  intro j
  rw [List.getElem?_set]
  by_cases hj : k = j
  · subst hj
    rw [if_pos rfl, if_pos (by simp [fmap_len]; omega), List.getElem?_map, List.getElem?_append_left (by rw [fmap_len]; omega)]
    simp [fmap]
  · simp only [hj, if_false, List.getElem?_map, List.getElem?_append, fmap_len, List.getElem?_replicate]
    by_cases h1 : j < k
    · have h2 : j < k + 1 := by omega
      simp [h1, h2, fmap]
    · have h2 : ¬ j < k + 1 := by omega
      have h3 : j - k < m - k ↔ j - (k+1) < m - (k+1) := by omega
      simp [h1, h2, h3]
theorem fill_end (f : Nat → Int) (m : Nat) : fmap f m ++ List.replicate (m - m) (0:Int) = fmap f m := by simp
/-- the row that a make of m integers has made -/
theorem made_ints {w1 : World} {B : Nat} {v : Value} {m : Nat} (f : Nat → Int) (h : w1.ownsRow B 3 1 v m (madeCells (Value.int .i64 0).cells (m * 1)).toList) :
    w1.ownsRow B 3 1 v m ((fmap f 0 ++ List.replicate (m - 0) (0:Int)).map (Value.int .i64)) := by
  simpa [Value.cells, toList_madeCells_one, fmap] using h

theorem wrap64_small (n : Int) (h0 : -9223372036854775808 ≤ n) (h1 : n ≤ 9223372036854775807) : IntKind.i64.wrap n = n := by
  simp only [IntKind.wrap, IntKind.bits, IntKind.signed]
  simp
  omega
theorem i64_wrap (n : Int) : IntKind.i64.wrap n = wrap64 n := IntWalk.i64_left n
theorem ofInt_i64 (a : Nat) (ha : a < 9223372036854775808) : (BitVec.ofInt 64 (a : Int)).toNat = a := by
  simp
  omega
theorem and_nat (a b : Nat) (ha : a < 9223372036854775808) (hb : b < 9223372036854775808) : bits .and .i64 (a : Int) (b : Int) = ((a &&& b : Nat) : Int) := by
  have hx : a &&& b < 2 ^ 63 := Nat.and_lt_two_pow _ (by omega)
  show IntKind.i64.wrap ((BitVec.ofInt 64 (a : Int) &&& BitVec.ofInt 64 (b : Int)).toNat : Int) = _
  rw [BitVec.toNat_and, ofInt_i64 a ha, ofInt_i64 b hb, wrap64_small _ (by omega) (by omega)]
theorem or_nat (a b : Nat) (ha : a < 9223372036854775808) (hb : b < 9223372036854775808) : bits .or .i64 (a : Int) (b : Int) = ((a ||| b : Nat) : Int) := by
  have hx : a ||| b < 2 ^ 63 := Nat.or_lt_two_pow (by omega) (by omega)
  show IntKind.i64.wrap ((BitVec.ofInt 64 (a : Int) ||| BitVec.ofInt 64 (b : Int)).toNat : Int) = _
  rw [BitVec.toNat_or, ofInt_i64 a ha, ofInt_i64 b hb, wrap64_small _ (by omega) (by omega)]
/-- a set without the elements of another one -/
def sub (a b : Nat) : Nat := a ^^^ (a &&& b)
theorem testBit_sub (a b i : Nat) : (sub a b).testBit i = (a.testBit i && !b.testBit i) := by
  simp [sub, Nat.testBit_xor, Nat.testBit_and]
  cases a.testBit i <;> cases b.testBit i <;> rfl
theorem sub_lt {a b n : Nat} (h : a < 2 ^ n) : sub a b < 2 ^ n := by
  unfold sub
  exact Nat.xor_lt_two_pow h (by rw [Nat.and_comm]; exact Nat.and_lt_two_pow _ h)
theorem sub_nat (a b : Nat) (ha : a < 9223372036854775808) (hb : b < 9223372036854775808) : bits .andNot .i64 (a : Int) (b : Int) = ((sub a b : Nat) : Int) := by
  have hs : sub a b < 2 ^ 63 := sub_lt (by omega)
  show IntKind.i64.wrap ((BitVec.ofInt 64 (a : Int) &&& ~~~BitVec.ofInt 64 (b : Int)).toNat : Int) = _
  have e : (BitVec.ofInt 64 (a : Int) &&& ~~~BitVec.ofInt 64 (b : Int)).toNat = sub a b := by
    apply Nat.eq_of_testBit_eq
    intro i
    rw [BitVec.testBit_toNat, BitVec.getLsbD_and, BitVec.getLsbD_not, testBit_sub, ← BitVec.testBit_toNat, ← BitVec.testBit_toNat, ofInt_i64 a ha, ofInt_i64 b hb]
    by_cases hi : i < 64
    · simp [hi]
    · have : a.testBit i = false := Nat.testBit_lt_two_pow (Nat.lt_of_lt_of_le (by omega : a < 2 ^ 64) (Nat.pow_le_pow_right (by omega) (by omega)))
      simp [this]
  rw [e, wrap64_small _ (by omega) (by omega)]
theorem shr_nat (s i : Nat) (hs : s < 9223372036854775808) : (s : Int) / (2 ^ min i 64) = ((s >>> i : Nat) : Int) := by
  rw [Nat.shiftRight_eq_div_pow]
  by_cases h : i ≤ 64
  · rw [Nat.min_eq_left h]
    simp
  · rw [Nat.min_eq_right (by omega)]
    have : 2 ^ 64 ≤ 2 ^ i := Nat.pow_le_pow_right (by omega) (by omega)
    rw [Nat.div_eq_of_lt (by omega)]
    omega
theorem bit_and (s i : Nat) (hs : s < 9223372036854775808) : (bits .and .i64 ((s >>> i : Nat) : Int) 1 == 1) = s.testBit i := by
  have h1 : s >>> i ≤ s := by rw [Nat.shiftRight_eq_div_pow]; exact Nat.div_le_self _ _
  have := and_nat (s >>> i) 1 (by omega) (by omega)
  rw [show ((1 : Nat) : Int) = 1 from rfl] at this
  rw [this, Nat.testBit, Nat.and_one_is_mod, Nat.and_comm, Nat.and_one_is_mod]
  rcases Nat.mod_two_eq_zero_or_one (s >>> i) with h | h <;> simp [h]
theorem bit_mod (s i : Nat) : (((s >>> i : Nat) : Int) % 2 == 1) = s.testBit i := by
  rw [Nat.testBit, Nat.and_comm, Nat.and_one_is_mod]
  rcases Nat.mod_two_eq_zero_or_one (s >>> i) with h | h
  · have h2 : ((s >>> i : Nat) : Int) % 2 = 0 := by omega
    rw [h2, h]; rfl
  · have h2 : ((s >>> i : Nat) : Int) % 2 = 1 := by omega
    rw [h2, h]; rfl
theorem bit_tmod (s i : Nat) : (((s >>> i : Nat) : Int).tmod 2 == 1) = s.testBit i := by
  rw [Int.tmod_eq_emod_of_nonneg (Int.natCast_nonneg _), bit_mod]
/-- is i in the set s? -/
def hasB (s i : Int) : Bool := s.toNat.testBit i.toNat
theorem has_and {s i : Int} (h0 : 0 ≤ s) (h1 : s ≤ 9223372036854775807) (hi : 0 ≤ i) : (bits .and .i64 (s / 2 ^ min i.toNat 64) 1 == 1) = hasB s i := by
  obtain ⟨S, rfl⟩ := Int.eq_ofNat_of_zero_le h0
  rw [shr_nat S _ (by omega), bit_and S _ (by omega)]
  rfl
theorem has_mod {s i : Int} (h0 : 0 ≤ s) (h1 : s ≤ 9223372036854775807) (hi : 0 ≤ i) : ((s / 2 ^ min i.toNat 64).tmod 2 == 1) = hasB s i := by
  obtain ⟨S, rfl⟩ := Int.eq_ofNat_of_zero_le h0
  rw [shr_nat S _ (by omega), bit_tmod S]
  rfl
theorem pow_w {k : Nat} (h : k < 62) : wrap64 (2 ^ k) = ((2 ^ k : Nat) : Int) := by
  have : 2 ^ k ≤ 2 ^ 61 := Nat.pow_le_pow_right (by omega) (by omega)
  rw [show ((2:Int) ^ k) = ((2 ^ k : Nat) : Int) by simp]
  generalize hp : 2 ^ k = p at *
  exact IntWalk.wrap64_in _ ⟨by omega, by omega⟩
theorem or_bit {b k : Nat} (hb : b < 4611686018427387904) (hk : k < 62) : bits .or .i64 (b : Int) (wrap64 (2 ^ k)) = ((b ||| 2 ^ k : Nat) : Int) := by
  rw [pow_w hk]
  have : 2 ^ k ≤ 2 ^ 61 := Nat.pow_le_pow_right (by omega) (by omega)
  exact or_nat _ _ (by omega) (by omega)
theorem or_i {a b : Int} (ha : 0 ≤ a) (ha1 : a < 9223372036854775808) (hb : 0 ≤ b) (hb1 : b < 9223372036854775808) : bits .or .i64 a b = ((a.toNat ||| b.toNat : Nat) : Int) := by
  obtain ⟨A, rfl⟩ := Int.eq_ofNat_of_zero_le ha
  obtain ⟨B, rfl⟩ := Int.eq_ofNat_of_zero_le hb
  exact or_nat A B (by omega) (by omega)
theorem sub_i {a b : Int} (ha : 0 ≤ a) (ha1 : a < 9223372036854775808) (hb : 0 ≤ b) (hb1 : b < 9223372036854775808) : bits .andNot .i64 a b = ((sub a.toNat b.toNat : Nat) : Int) := by
  obtain ⟨A, rfl⟩ := Int.eq_ofNat_of_zero_le ha
  obtain ⟨B, rfl⟩ := Int.eq_ofNat_of_zero_le hb
  exact sub_nat A B (by omega) (by omega)
theorem or_lt {a b n : Nat} (ha : a < 2 ^ n) (hb : b < 2 ^ n) : a ||| b < 2 ^ n := Nat.or_lt_two_pow ha hb
theorem two_lt {k n : Nat} (h : k < n) : 2 ^ k < 2 ^ n := Nat.pow_lt_pow_right (by omega) h
theorem testBit_two (k i : Nat) : (2 ^ k).testBit i = decide (k = i) := Nat.testBit_two_pow

/-- the elements of a set that are less than k, in order -/
def elemsTo (s : Nat) : Nat → List Int
  | 0 => []
  | k+1 => if s.testBit k then elemsTo s k ++ [(k : Int)] else elemsTo s k
theorem elemsTo_len (s : Nat) : ∀ k, (elemsTo s k).length ≤ k
  | 0 => by simp [elemsTo]
  | k+1 => by
    have := elemsTo_len s k
    simp only [elemsTo]
    split <;> simp <;> omega
theorem mem_elemsTo (s : Nat) (x : Int) : ∀ k, x ∈ elemsTo s k ↔ ∃ i : Nat, i < k ∧ s.testBit i = true ∧ x = i
  | 0 => by simp [elemsTo]
  | k+1 => by
    have ih := mem_elemsTo s x k
    simp only [elemsTo]
    cases hb : s.testBit k
    · rw [if_neg (by simp), ih]
      constructor
      · rintro ⟨i, h1, h2, h3⟩
        exact ⟨i, by omega, h2, h3⟩
      · rintro ⟨i, h1, h2, h3⟩
        have : i ≠ k := fun e => by rw [e, hb] at h2; cases h2
        exact ⟨i, by omega, h2, h3⟩
    · rw [if_pos rfl, List.mem_append, ih]
      constructor
      · rintro (⟨i, h1, h2, h3⟩ | h)
        · exact ⟨i, by omega, h2, h3⟩
        · exact ⟨k, by omega, hb, by simpa using h⟩
      · rintro ⟨i, h1, h2, h3⟩
        by_cases e : i = k
        · exact .inr (by simp [h3, e])
        · exact .inl ⟨i, by omega, h2, h3⟩
theorem elemsTo_more (s k : Nat) (h : s >>> k = 0) : ∀ m, elemsTo s (k + m) = elemsTo s k
  | 0 => rfl
  | m+1 => by
    have hb : s.testBit (k + m) = false := by
      rw [Nat.testBit]
      have : s >>> (k + m) = 0 := by rw [Nat.shiftRight_add, h]; simp
      simp [this]
    show elemsTo s (k + m + 1) = _
    simp only [elemsTo, hb]
    exact elemsTo_more s k h m
/-- all elements of a set below 1024 -/
def elems (s : Nat) : List Int := elemsTo s 10
theorem elems_at {s k : Nat} (h : s >>> k = 0) (hk : k ≤ 10) : elemsTo s k = elems s := by
  have := elemsTo_more s k h (10 - k)
  rw [show k + (10 - k) = 10 from by omega] at this
  exact this.symm
theorem elems_len (s : Nat) : (elems s).length ≤ 10 := elemsTo_len s 10
theorem mem_elems {s : Nat} (hs : s < 1024) {x : Int} : x ∈ elems s ↔ ∃ i : Nat, s.testBit i = true ∧ x = i := by
  rw [elems, mem_elemsTo]
  constructor
  · rintro ⟨i, _, h2, h3⟩
    exact ⟨i, h2, h3⟩
  · rintro ⟨i, h2, h3⟩
    refine ⟨i, ?_, h2, h3⟩
    rcases Nat.lt_or_ge i 10 with h | h
    · exact h
    · have : s < 2 ^ i := Nat.lt_of_lt_of_le hs (Nat.pow_le_pow_right (by omega : 0 < 2) h)
      rw [Nat.testBit_lt_two_pow this] at h2
      cases h2
theorem nth_mem {xs : List Int} {k : Nat} (h : k < xs.length) : nth xs k ∈ xs := by
  rw [nth_get xs k h]; exact List.getElem_mem h
theorem mem_nth {xs : List Int} {x : Int} (h : x ∈ xs) : ∃ k, k < xs.length ∧ nth xs k = x := by
  obtain ⟨k, hk, e⟩ := List.getElem_of_mem h
  exact ⟨k, hk, by rw [nth_get xs k hk, e]⟩

def inB (n lo hi : Int) : Bool := decide (lo ≤ n) && decide (n ≤ hi)
theorem inB_iff {n lo hi : Int} : inB n lo hi = true ↔ lo ≤ n ∧ n ≤ hi := by simp [inB]
theorem inB_no {n lo hi : Int} : inB n lo hi = false ↔ n < lo ∨ hi < n := by
  rw [← Bool.not_eq_true, inB_iff]
  omega

def allB (xs : List Int) (lo hi : Int) : Bool := xs.all (fun x => inB x lo hi)
theorem allB_take (xs : List Int) (lo hi : Int) (k : Nat) (h : k < xs.length) : allB (xs.take (k+1)) lo hi = (allB (xs.take k) lo hi && inB (nth xs k) lo hi) := by
  simp only [allB]
  rw [List.take_succ_eq_append_getElem h, List.all_append]
  simp [nth, h]
theorem allB_false {xs : List Int} {lo hi : Int} {k : Nat} (h : k < xs.length) (h1 : inB (nth xs k) lo hi = false) : allB xs lo hi = false := by
  simp only [allB, List.all_eq_false]
  exact ⟨xs[k], List.getElem_mem h, by simpa [nth, h] using h1⟩
theorem allB_nth {xs : List Int} {lo hi : Int} (h : allB xs lo hi = true) {k : Nat} (hk : k < xs.length) : lo ≤ nth xs k ∧ nth xs k ≤ hi := by
  simp only [allB, List.all_eq_true] at h
  have := inB_iff.1 (h _ (List.getElem_mem hk))
  rwa [← nth_get xs k hk] at this

/-- is it a relation? -/
def relB (n : Int) (xs : List Int) : Bool := inB n 0 10 && decide ((xs.length : Int) = n) && allB xs 0 (2 ^ n.toNat - 1)
theorem relB_iff {n : Int} {xs : List Int} : relB n xs = true ↔ (0 ≤ n ∧ n ≤ 10) ∧ (xs.length : Int) = n ∧ allB xs 0 (2 ^ n.toNat - 1) = true := by
  simp [relB, inB_iff, and_assoc]
theorem pow10 {n : Nat} (h : n ≤ 10) : (1 : Int) ≤ 2 ^ n ∧ (2 : Int) ^ n ≤ 1024 := by
  have h1 : 2 ^ n ≤ 2 ^ 10 := Nat.pow_le_pow_right (by omega) h
  have h2 : 1 ≤ 2 ^ n := Nat.one_le_two_pow
  have h3 : ((2 ^ n : Nat) : Int) = (2 : Int) ^ n := by simp
  omega
theorem full_eq {n : Int} (h0 : 0 ≤ n) (h1 : n ≤ 10) : wrap64 (wrap64 (2 ^ n.toNat) - 1) = 2 ^ n.toNat - 1 := by
  have h2 := pow10 (n := n.toNat) (by omega)
  generalize (2 : Int) ^ n.toNat = p at *
  rw [IntWalk.wrap64_in p ⟨by omega, by omega⟩, IntWalk.wrap64_in _ ⟨by omega, by omega⟩]
structure RelP (n : Int) (xs : List Int) : Prop where
  n0 : 0 ≤ n
  n1 : n ≤ 10
  len : (xs.length : Int) = n
  pos : ∀ k, k < xs.length → 0 ≤ nth xs k
  lt : ∀ k, k < xs.length → nth xs k < 2 ^ xs.length
  small : ∀ k, k < xs.length → nth xs k < 1024
theorem relB_p {n : Int} {xs : List Int} (h : relB n xs = true) : RelP n xs := by
  obtain ⟨⟨h0, h1⟩, h2, h3⟩ := relB_iff.1 h
  have e : n.toNat = xs.length := by omega
  rw [e] at h3
  have hp := pow10 (n := xs.length) (by omega)
  exact ⟨h0, h1, h2, fun k hk => (allB_nth h3 hk).1, fun k hk => by have := (allB_nth h3 hk).2; omega, fun k hk => by have := (allB_nth h3 hk).2; omega⟩

/-- the set of the indices below k of the lists that have i -/
def belowTo (xs : List Int) (i : Int) : Nat → Nat
  | 0 => 0
  | k+1 => if hasB (nth xs k) i then belowTo xs i k ||| 2 ^ k else belowTo xs i k
theorem belowTo_lt (xs : List Int) (i : Int) : ∀ k, belowTo xs i k < 2 ^ k
  | 0 => by simp [belowTo]
  | k+1 => by
    have h := belowTo_lt xs i k
    have h2 : 2 ^ k < 2 ^ (k+1) := two_lt (by omega)
    simp only [belowTo]
    split
    · exact or_lt (by omega) h2
    · omega
theorem belowTo_small (xs : List Int) (i : Int) {k : Nat} (h : k ≤ 10) : belowTo xs i k < 1024 := by
  have h1 := belowTo_lt xs i k
  have h2 : 2 ^ k ≤ 2 ^ 10 := Nat.pow_le_pow_right (by omega) h
  omega
theorem belowTo_bit (xs : List Int) (i : Int) (j : Nat) : ∀ k, (belowTo xs i k).testBit j = (decide (j < k) && hasB (nth xs j) i)
  | 0 => by simp [belowTo]
  | k+1 => by
    have h := belowTo_bit xs i j k
    simp only [belowTo]
    by_cases hjk : j = k
    · subst hjk
      cases hb : hasB (nth xs j) i
      · simp [h]
      · simp [Nat.testBit_or, testBit_two]
    · have e : decide (j < k + 1) = decide (j < k) := by
        rw [decide_eq_decide]; omega
      rw [e, ← h]
      have hkj : ¬ k = j := fun e => hjk e.symm
      cases hb : hasB (nth xs k) i <;> simp [Nat.testBit_or, testBit_two, hkj]

def okAtB (xs : List Int) (k : Nat) : Bool := !hasB (nth xs k) k && (List.range xs.length).all (fun j => !hasB (nth xs k) j || sub (nth xs j).toNat (nth xs k).toNat == 0)
/-- is it an order? -/
def ordB (n : Int) (xs : List Int) : Bool := relB n xs && (List.range xs.length).all (okAtB xs)
theorem okAtB_iff {xs : List Int} {k : Nat} : okAtB xs k = true ↔ hasB (nth xs k) k = false ∧ ∀ j, j < xs.length → hasB (nth xs k) j = true → sub (nth xs j).toNat (nth xs k).toNat = 0 := by
  simp only [okAtB, Bool.and_eq_true, Bool.not_eq_true', List.all_eq_true, List.mem_range, Bool.or_eq_true, beq_iff_eq]
  constructor
  · rintro ⟨h1, h2⟩
    exact ⟨h1, fun j hj hb => (h2 j hj).resolve_left (by simp [hb])⟩
  · rintro ⟨h1, h2⟩
    refine ⟨h1, fun j hj => ?_⟩
    cases hb : hasB (nth xs k) j
    · exact .inl rfl
    · exact .inr (h2 j hj hb)
theorem ordB_iff {n : Int} {xs : List Int} : ordB n xs = true ↔ relB n xs = true ∧ ∀ k, k < xs.length → okAtB xs k = true := by
  simp [ordB]
theorem ordB_no {n : Int} {xs : List Int} {k : Nat} (hk : k < xs.length) (h : okAtB xs k = false) : ordB n xs = false := by
  rw [← Bool.not_eq_true, ordB_iff]
  rintro ⟨_, h2⟩
  rw [h2 k hk] at h
  cases h
theorem okAtB_has {xs : List Int} {k : Nat} (h : hasB (nth xs k) k = true) : okAtB xs k = false := by
  simp [okAtB, h]
theorem okAtB_sub {xs : List Int} {k j : Nat} (hj : j < xs.length) (h : hasB (nth xs k) j = true) (h2 : sub (nth xs j).toNat (nth xs k).toNat ≠ 0) : okAtB xs k = false := by
  rw [← Bool.not_eq_true, okAtB_iff]
  rintro ⟨_, h3⟩
  exact h2 (h3 j hj h)
theorem sub_zero {a b : Nat} : sub a b = 0 ↔ ∀ i, a.testBit i = true → b.testBit i = true := by
  constructor
  · intro h i hi
    have := testBit_sub a b i
    rw [h, hi] at this
    simpa using this.symm
  · intro h
    apply Nat.eq_of_testBit_eq
    intro i
    rw [testBit_sub]
    cases ha : a.testBit i
    · simp
    · simp [h i ha]
theorem has_lt {n : Int} {xs : List Int} (hp : RelP n xs) {k : Nat} (hk : k < xs.length) {j : Nat} (h : hasB (nth xs k) j = true) : j < xs.length := by
  rcases Nat.lt_or_ge j xs.length with h' | h'
  · exact h'
  · have h1 := hp.lt k hk
    have h0 := hp.pos k hk
    have h2 : (nth xs k).toNat < 2 ^ j := by
      have : (2 : Nat) ^ xs.length ≤ 2 ^ j := Nat.pow_le_pow_right (by omega) h'
      have e : ((2 ^ xs.length : Nat) : Int) = (2 : Int) ^ xs.length := by simp
      omega
    simp only [hasB] at h
    rw [Int.toNat_natCast, Nat.testBit_lt_two_pow h2] at h
    cases h

theorem ord_rel {n : Int} {xs : List Int} (h : ordB n xs = true) : RelP n xs := relB_p (ordB_iff.1 h).1

theorem OwnI.capLe {w : World} {B n cap : Nat} {a : Option Addr} {xs : List Int} (h : OwnI w B (.slice a n cap) xs) : n ≤ cap := by
  rcases h.2 with ⟨e, _⟩ | ⟨g, cap', cur, e, _, _, hc, _⟩
  · simp only [Value.slice.injEq] at e
    omega
  · simp only [Value.slice.injEq] at e
    omega
theorem Rd.take {w : World} {a : Option Addr} {xs : List Int} (h : Rd w a xs) (k : Nat) : Rd w a (xs.take k) :=
  ⟨Nat.le_trans (by rw [List.length_take]; exact Nat.min_le_right _ _) h.len, fun j hj => by
    have hj' : j < xs.length ∧ j < k := by rw [List.length_take] at hj; omega
    obtain ⟨b, off, e, hl, hc⟩ := h.cell j hj'.1
    refine ⟨b, off, e, hl, hc.trans ?_⟩
    simp [nth, List.getD_eq_getElem?_getD, List.getElem?_take, hj'.2]⟩

/-- the elements of two orders; more is added above each element of the first one -/
def togE (xs ys : List Int) (more : Nat) (k : Nat) : Int := if k < xs.length then (((nth xs k).toNat ||| more : Nat) : Int) else (((nth ys (k - xs.length)).toNat * 2 ^ xs.length : Nat) : Int)
def togs (xs ys : List Int) (more k : Nat) : List Int := fmap (togE xs ys more) k
theorem togs_len (xs ys : List Int) (more k : Nat) : (togs xs ys more k).length = k := fmap_len _ _
def togOk (n : Int) (xs : List Int) (m : Int) (ys : List Int) : Bool := ordB n xs && (ordB m ys && decide (n + m ≤ 10))
theorem togOk_iff {n m : Int} {xs ys : List Int} : togOk n xs m ys = true ↔ ordB n xs = true ∧ ordB m ys = true ∧ n + m ≤ 10 := by
  simp [togOk]
/-- what BesideOrders hands back -/
def besN (n : Int) (xs : List Int) (m : Int) (ys : List Int) : Int := if togOk n xs m ys then n + m else 0
def besL (n : Int) (xs : List Int) (m : Int) (ys : List Int) : List Int := if togOk n xs m ys then togs xs ys 0 (xs.length + ys.length) else []
/-- what StackOrders hands back -/
def stkL (n : Int) (xs : List Int) (m : Int) (ys : List Int) : List Int := if togOk n xs m ys then togs xs ys ((2 ^ ys.length - 1) * 2 ^ xs.length) (xs.length + ys.length) else []
theorem tog_small {n m : Int} {xs ys : List Int} (h : togOk n xs m ys = true) : xs.length + ys.length ≤ 10 := by
  have ⟨h1, h2, h3⟩ := togOk_iff.1 h
  have := (ord_rel h1).len
  have := (ord_rel h2).len
  omega
theorem besL_len (n : Int) (xs : List Int) (m : Int) (ys : List Int) : (besL n xs m ys).length ≤ 1048576 := by
  unfold besL
  split
  · rename_i h; have := tog_small h; rw [togs_len]; omega
  · simp
theorem stkL_len (n : Int) (xs : List Int) (m : Int) (ys : List Int) : (stkL n xs m ys).length ≤ 1048576 := by
  unfold stkL
  split
  · rename_i h; have := tog_small h; rw [togs_len]; omega
  · simp
theorem togs_first {n : Int} {xs : List Int} (hp : RelP n xs) (ys : List Int) : togs xs ys 0 xs.length = xs := by
  apply List.ext_getElem (by rw [togs_len])
  intro i h1 h2
  rw [togs_len] at h1
  rw [← nth_get _ _ (by rw [togs_len]; exact h1), ← nth_get _ _ h2]
  rw [show nth (togs xs ys 0 xs.length) i = togE xs ys 0 i from fmap_nth _ h1, togE, if_pos h1, Nat.or_zero]
  have := hp.pos i h1
  omega
theorem shl_small {y : Nat} {n m : Nat} (hy : y < 2 ^ m) (h : n + m ≤ 10) : y * 2 ^ n < 1024 := by
  have h1 : y * 2 ^ n < 2 ^ m * 2 ^ n := Nat.mul_lt_mul_of_pos_right hy (Nat.two_pow_pos n)
  rw [← Nat.pow_add] at h1
  have h2 : 2 ^ (m + n) ≤ 2 ^ 10 := Nat.pow_le_pow_right (by omega) (by omega)
  omega
theorem togs_shl {m : Int} {xs ys : List Int} (hq : RelP m ys) (h : xs.length + ys.length ≤ 10) {k : Nat} (hk : k < ys.length) (more : Nat) :
    wrap64 (nth ys k * 2 ^ xs.length) = togE xs ys more (xs.length + k) := by
  have h0 := hq.pos k hk
  have h1 := hq.lt k hk
  have hl := hq.len
  obtain ⟨y, hy⟩ := Int.eq_ofNat_of_zero_le h0
  have hy2 : y < 2 ^ ys.length := by
    have e : ((2 ^ ys.length : Nat) : Int) = (2 : Int) ^ ys.length := by simp
    rw [hy] at h1
    omega
  have hs := shl_small hy2 h
  rw [togE, if_neg (by omega), show xs.length + k - xs.length = k from by omega, hy, Int.toNat_natCast]
  have e2 : (y : Int) * 2 ^ xs.length = ((y * 2 ^ xs.length : Nat) : Int) := by simp
  rw [e2]
  exact IntWalk.wrap64_in _ ⟨by omega, by omega⟩

/-- the elements of the meet of two orders -/
def meetE (xs ys : List Int) (k : Nat) : Int := (((nth xs k).toNat &&& (nth ys k).toNat : Nat) : Int)
def meetOk (n : Int) (xs : List Int) (m : Int) (ys : List Int) : Bool := ordB n xs && (ordB m ys && decide (n = m))
theorem meetOk_iff {n m : Int} {xs ys : List Int} : meetOk n xs m ys = true ↔ ordB n xs = true ∧ ordB m ys = true ∧ n = m := by
  simp [meetOk]
def meetN (n : Int) (xs : List Int) (m : Int) (ys : List Int) : Int := if meetOk n xs m ys then n else 0
def meetL (n : Int) (xs : List Int) (m : Int) (ys : List Int) : List Int := if meetOk n xs m ys then fmap (meetE xs ys) xs.length else []
theorem meetL_len (n : Int) (xs : List Int) (m : Int) (ys : List Int) : (meetL n xs m ys).length ≤ 1048576 := by
  unfold meetL
  split
  · rename_i h
    have := (ord_rel (meetOk_iff.1 h).1).len
    have := (ord_rel (meetOk_iff.1 h).1).n1
    rw [fmap_len]; omega
  · simp
theorem meet_and {n m : Int} {xs ys : List Int} (hp : RelP n xs) (hq : RelP m ys) {k : Nat} (hk : k < xs.length) (hk2 : k < ys.length) : bits .and .i64 (nth xs k) (nth ys k) = meetE xs ys k := by
  have h0 := hp.pos k hk
  have h1 := hp.small k hk
  have h2 := hq.pos k hk2
  have h3 := hq.small k hk2
  obtain ⟨x, hx⟩ := Int.eq_ofNat_of_zero_le h0
  obtain ⟨y, hy⟩ := Int.eq_ofNat_of_zero_le h2
  rw [meetE, hx, hy, Int.toNat_natCast, Int.toNat_natCast]
  exact and_nat _ _ (by omega) (by omega)

/-- does the first order refine the second one? -/
def refB (n : Int) (xs : List Int) (m : Int) (ys : List Int) : Bool := meetOk n xs m ys && eqL (meetL n xs m ys) ys
theorem sub_zero_iff {x y : Nat} : sub y x = 0 ↔ x &&& y = y := by
  constructor
  · intro h
    apply Nat.eq_of_testBit_eq
    intro i
    have := testBit_sub y x i
    rw [h, Nat.zero_testBit] at this
    rw [Nat.testBit_and]
    cases hy : y.testBit i <;> cases hx : x.testBit i <;> simp_all
  · intro h
    apply Nat.eq_of_testBit_eq
    intro i
    rw [testBit_sub, Nat.zero_testBit, ← h, Nat.testBit_and]
    cases x.testBit i <;> cases y.testBit i <;> rfl
theorem ref_iff {n : Int} {xs ys : List Int} (hp : RelP n xs) (hq : RelP n ys) (hk : meetOk n xs n ys = true) : refB n xs n ys = true ↔ ∀ k, k < ys.length → sub (nth ys k).toNat (nth xs k).toNat = 0 := by
  have hl : xs.length = ys.length := by have := hp.len; have := hq.len; omega
  simp only [refB, hk, Bool.true_and, eqL, decide_eq_true_eq, meetL, if_true]
  constructor
  · intro h k hk
    have e : nth (fmap (meetE xs ys) xs.length) k = nth ys k := by rw [h]
    rw [show nth (fmap (meetE xs ys) xs.length) k = _ from fmap_nth _ (by omega), meetE] at e
    have := hq.pos k hk
    exact sub_zero_iff.2 (by omega)
  · intro h
    apply List.ext_getElem (by rw [fmap_len, hl])
    intro i h1 h2
    rw [fmap_len] at h1
    rw [← nth_get _ _ (by rw [fmap_len]; exact h1), ← nth_get _ _ h2, show nth (fmap (meetE xs ys) xs.length) i = _ from fmap_nth _ h1, meetE, sub_zero_iff.1 (h i h2)]
    have := hq.pos i h2
    omega

theorem boxes2 {w w1 : World} {u v u2 v2 : Value} (hb1 : Below ((w.alloc (.cells #[u, v] 28)).alloc (.cells #[u2, v2] 28)).heap.size ((w.alloc (.cells #[u, v] 28)).alloc (.cells #[u2, v2] 28)) w1) :
    Box2 w1 w.heap.size u v ∧ Box2 w1 (w.heap.size + 1) u2 v2 ∧ Below w.heap.size w w1 := by
  refine ⟨((Box2.new w u v 28).below ((Below.refl _ _).alloc (Nat.le_refl _) _)).below hb1, ?_, Below.trans (by repeat (first | exact Below.refl _ _ | assumption | refine Below.alloc ?_ (by first | exact Nat.le_refl _ | (simp only [World.size_alloc, World.size_setCell, World.size_drew]; omega) | omega) _ | refine Below.setCell ?_ (by first | exact Nat.le_refl _ | (simp only [World.size_alloc, World.size_setCell, World.size_drew]; omega) | omega) _ | refine Below.drew ?_)) (hb1.mono (by first | (simp only [World.size_alloc, World.size_setCell, World.size_drew]; omega) | omega))⟩
  have h := (Box2.new (w.alloc (.cells #[u, v] 28)) u2 v2 28).below hb1
  simpa using h

theorem ret_2b {a b c d : Bool} (h : a = b) (h2 : c = d) : Ending.returned (.tuple #[.bool a, .bool c]) = .returned (.tuple #[.bool b, .bool d]) := by rw [h, h2]
theorem ret_2i {a b : Int} {c d : Bool} (h : a = b) (h2 : c = d) : Ending.returned (.tuple #[.int .i64 a, .bool c]) = .returned (.tuple #[.int .i64 b, .bool d]) := by rw [h, h2]

theorem orHas_any (s i : Int) (w : World) (h0 : 0 ≤ s) (h1 : s ≤ 9223372036854775807) (hi : 0 ≤ i) :
    Calls Try.prog 80 #[.int .i64 s, .int .i64 i] w fun e w' => e = .returned (.bool (hasB s i)) ∧ w = w' := by
  have H := Lib.hid (has_mod h0 h1 hi)
  go_enter Try.func80, Try.ntmps80
  go_wp2
  go_ret
  exact ⟨ret_bool H.out, rfl⟩

theorem orList_any (s : Int) (w : World) (h0 : 0 ≤ s) (h1 : s < 1024) :
    Calls Try.prog 81 #[.int .i64 s] w fun e w' => ∃ a cap, e = .returned (.slice a (elems s.toNat).length cap) ∧ OwnI w' w.heap.size (.slice a (elems s.toNat).length cap) (elems s.toNat) ∧ Below w.heap.size w w' := by
  obtain ⟨S, rfl⟩ := Int.eq_ofNat_of_zero_le h0
  have hS : S < 1024 := by omega
  obtain ⟨i0, hi, hz0, hz1, hz2⟩ := info_parts infoInt
  have hsh : ∀ k : Nat, (S : Int) / 2 ^ min k 64 = ((S >>> k : Nat) : Int) := fun k => shr_nat S k (by omega)
  have HSH := Lib.hid hsh
  clear hsh
  go_enter Try.func81, Try.ntmps81
  go_wp2_with fail
  go_loopw [3, 4] (fun v i wr => ∃ k : Nat, k ≤ 10 ∧ i = .int .i64 k ∧ wr.ownsRow w.heap.size 3 1 v (elemsTo S k).length ((elemsTo S k).map (Value.int .i64)) ∧ Below w.heap.size w wr) (fun _ i _ => 10 - (intOf i).toNat)
  case atStart => exact ⟨0, by omega, rfl, by simpa [elemsTo] using World.ownsRow_nil _ _ _ _, Below.refl _ _⟩
  case round =>
    obtain ⟨k, hk, rfl, hown, hb⟩ := hrel
    have hln := elemsTo_len S k
    have hsz := hb.size
    have hq := HSH.out k
    rw [show min k 64 = k from by omega] at hq
    by_cases hz : S >>> k = 0
    · have ht : ¬ (0 : Int) < (S : Int) / 2 ^ k := by rw [hq, hz]; omega
      have HZ := Lib.hid hz
      clear hq hz
      go_wp2_with fail
      go_ret
      have e := elems_at HZ.out hk
      rw [e] at hown
      obtain ⟨a, cap, rfl⟩ := OwnI.form hown
      exact ⟨a, cap, rfl, hown, hb⟩
    · have ht : (0 : Int) < (S : Int) / 2 ^ k := by rw [hq]; exact Int.natCast_pos.2 (Nat.pos_of_ne_zero hz)
      have hk9 : k < 10 := by
        rcases Nat.lt_or_ge k 10 with h | h
        · exact h
        · obtain rfl : k = 10 := by omega
          exact absurd (by rw [Nat.shiftRight_eq_div_pow]; exact Nat.div_eq_of_lt (by omega)) hz
      clear hq hz
      have hhas : hasB (S : Int) (k : Int) = S.testBit k := rfl
      cases hin : S.testBit k
      · rw [hin] at hhas
        go_wp2_with (go_at_call 80; refine (orHas_any _ _ _ (by omega) (by omega) (by omega)).mono ?_; rintro e w' ⟨rfl, rfl⟩)
        go_roundw
        case rel => exact ⟨k + 1, by omega, by go_num, by simpa [elemsTo, hin] using hown, hb⟩
        case measure => simp [intOf]; omega
      · rw [hin] at hhas
        go_wp2_with (first | (go_at_call 80; refine (orHas_any _ _ _ (by omega) (by omega) (by omega)).mono ?_; rintro e w' ⟨rfl, rfl⟩) | (at_builtin; refine wpList_append_own _ rfl _ _ 22 rfl w.heap.size 3 i0 (.int .i64 0) 1 8 Try.underlying22 hi hz0 hz1 hz2 rfl (by decide) _ _ _ rfl (hown.alloc _) ⟨wr.heap.size, 0, none⟩ 1 1 [.int .i64 k] rfl rfl ?c1 ?c2 ?c3 ?c4 ?c5 ?_))
        case c1 =>
          intro j u hj
          match j, hj with
          | 0, hj => simp at hj; subst hj; simp [Addr.add]
        case c2 => intro u hu; simp at hu; subst hu; rfl
        case c3 => unfold maxLen; omega
        case c4 => omega
        case c5 => simp; omega
        · intro v' w1 hown' hgrow _
          have hlt := World.ownsRow.lt hown
          have hb1 : Below w.heap.size w w1 := (hb.alloc hsz _).grown hgrow (by simp; omega) (fun b e => (hlt b e).1)
          have HO := Lib.hid hown'
          clear hown' hgrow hown
          go_wp2_with fail
          go_roundw
          case rel => exact ⟨k + 1, by omega, by go_num, by simpa [elemsTo, hin] using HO.out, hb1⟩
          case measure => simp [intOf]; omega

theorem l1In_any (n lo hi : Int) (w : World) :
    Calls Try.prog 70 #[.int .i64 n, .int .i64 lo, .int .i64 hi] w fun e w' => e = .returned (.bool (inB n lo hi)) ∧ w = w' := by
  go_enter Try.func70, Try.ntmps70
  go_wp2
  all_goals (go_ret; exact ⟨ret_bool (by simp [inB]; try omega), rfl⟩)
theorem l1In_is {n lo hi : Int} {b : Bool} (h : inB n lo hi = b) (w : World) (m : Nat) :
    Calls Try.prog 70 #[.int .i64 n, .int .i64 lo, .int .i64 hi] (w.drewN m) fun e w' => e = .returned (.bool b) ∧ ∃ k, w' = w.drewN k :=
  Calls.quiet_of_same ((l1In_any n lo hi (w.drewN m)).mono (fun e w' hh => ⟨by rw [← h]; exact hh.1, hh.2.symm⟩))

theorem l1All_any (a : Option Addr) (xs : List Int) (cap : Nat) (lo hi : Int) (w : World) (hx : Rd w a xs) :
    Calls Try.prog 108 #[.slice a xs.length cap, .int .i64 lo, .int .i64 hi] w fun e w' => e = .returned (.bool (allB xs lo hi)) ∧ w = w' := by
  have hlen := hx.len
  go_enter Try.func108, Try.ntmps108
  go_wp2_with fail
  go_loop [11] (fun i => ∃ k : Nat, k ≤ xs.length ∧ i = .int .i64 k ∧ allB (xs.take k) lo hi = true) (fun i => xs.length - (intOf i).toNat)
  case atStart => exact ⟨0, Nat.zero_le _, rfl, rfl⟩
  case round =>
    obtain ⟨k, hk, rfl, hall⟩ := hrel
    by_cases hlt : k < xs.length
    · obtain ⟨b, off, rfl, hbl, hc⟩ := hx.cell k hlt
      cases hin : inB (nth xs k) lo hi
      · have hf := Lib.hid (allB_false hlt hin)
        go_wp2_with (go_at_call 70; refine (l1In_any _ _ _ _).mono ?_; rintro e w' ⟨rfl, rfl⟩)
        go_ret
        exact ⟨ret_bool hf.out.symm, rfl⟩
      · go_wp2_with (go_at_call 70; refine (l1In_any _ _ _ _).mono ?_; rintro e w' ⟨rfl, rfl⟩)
        go_round
        case rel => exact ⟨k + 1, by omega, by go_num, by rw [allB_take _ _ _ _ hlt, hall, hin]; rfl⟩
        case measure => simp [intOf]; omega
    · go_wp2_with fail
      go_ret
      exact ⟨ret_bool (by rw [← hall, List.take_of_length_le (by omega)]), rfl⟩
theorem l1All_is {a : Option Addr} {xs : List Int} {cap : Nat} {lo hi : Int} {b : Bool} {w : World} (hx : Rd w a xs) (h : allB xs lo hi = b) (m : Nat) :
    Calls Try.prog 108 #[.slice a xs.length cap, .int .i64 lo, .int .i64 hi] (w.drewN m) fun e w' => e = .returned (.bool b) ∧ ∃ k, w' = w.drewN k :=
  Calls.quiet_of_same ((l1All_any a xs cap lo hi (w.drewN m) (hx.below (Joins.below_draws _ _ _))).mono (fun e w' hh => ⟨by rw [← h]; exact hh.1, hh.2.symm⟩))

theorem orRelation_any (n : Int) (a : Option Addr) (xs : List Int) (cap : Nat) (w : World) (hx : Rd w a xs) :
    Calls Try.prog 79 #[.agg #[.int .i64 n, .slice a xs.length cap]] w fun e w' => e = .returned (.bool (relB n xs)) ∧ Below w.heap.size w w' := by
  have hx1 := hx.alloc (.cells #[.int .i64 n, .slice a xs.length cap] 28)
  cases h1 : inB n 0 10
  · have HR : Hid (relB n xs = false) := by simp [Hid, relB, h1]
    go_enter Try.func79, Try.ntmps79
    go_wp2_with fail
    go_quiet ((go_at_call 70; exact l1In_is h1 _ _))
    go_wp2_with fail
    go_ret
    exact ⟨ret_bool HR.out.symm, (Below.refl _ _).alloc (Nat.le_refl _) _ |>.trans (Joins.below_draws _ _ _)⟩
  · have hn := inB_iff.1 h1
    cases h2 : ((xs.length : Int) == n)
    · have HR : Hid (relB n xs = false) := by
        have : ¬ (xs.length : Int) = n := by simpa using h2
        simp [Hid, relB, h1, this]
      go_enter Try.func79, Try.ntmps79
      go_wp2_with fail
      go_quiet ((go_at_call 70; exact l1In_is h1 _ _))
      go_wp2_with fail
      go_ret
      exact ⟨ret_bool HR.out.symm, (Below.refl _ _).alloc (Nat.le_refl _) _ |>.trans (Joins.below_draws _ _ _)⟩
    · cases h3 : allB xs 0 (wrap64 (wrap64 (2 ^ n.toNat) - 1))
      all_goals
        have HR : Hid (relB n xs = allB xs 0 (wrap64 (wrap64 (2 ^ n.toNat) - 1))) := by
          have : (xs.length : Int) = n := by simpa using h2
          simp only [Hid, relB, h1, this, full_eq hn.1 hn.2]
          simp
        have H3 := Lib.hid h3
        clear h3
        go_enter Try.func79, Try.ntmps79
        go_wp2_with fail
        go_quiet ((first | (go_at_call 70; exact l1In_is h1 _ _) | (go_at_call 108; exact l1All_is hx1 H3.out _)))
        go_wp2_with fail
        go_ret
        exact ⟨ret_bool (by rw [HR.out, H3.out]), (Below.refl _ _).alloc (Nat.le_refl _) _ |>.trans (Joins.below_draws _ _ _)⟩

theorem elem_at {n : Int} {xs : List Int} (hp : RelP n xs) {k : Nat} (hk : k < xs.length) {m : Nat} (hm : m < (elems (nth xs k).toNat).length) :
    ∃ i : Nat, i < xs.length ∧ hasB (nth xs k) i = true ∧ nth (elems (nth xs k).toNat) m = (i : Int) := by
  have h1 := hp.small k hk
  have h0 := hp.pos k hk
  obtain ⟨i, hb, e⟩ := (mem_elems (by omega)).1 (nth_mem hm)
  exact ⟨i, has_lt hp hk hb, hb, e⟩
theorem at_elem {n : Int} {xs : List Int} (hp : RelP n xs) {k : Nat} (hk : k < xs.length) {j : Nat} (h : hasB (nth xs k) j = true) :
    ∃ m, m < (elems (nth xs k).toNat).length ∧ nth (elems (nth xs k).toNat) m = (j : Int) := by
  have h1 := hp.small k hk
  have h0 := hp.pos k hk
  have : (j : Int) ∈ elems (nth xs k).toNat := (mem_elems (by omega)).2 ⟨j, h, rfl⟩
  obtain ⟨m, hm, e⟩ := mem_nth this
  exact ⟨m, hm, e⟩
theorem orGood_any (n : Int) (a : Option Addr) (xs : List Int) (cap : Nat) (w : World) (hx : Rd w a xs) :
    Calls Try.prog 51 #[.agg #[.int .i64 n, .slice a xs.length cap]] w fun e w' => e = .returned (.bool (ordB n xs)) ∧ Below w.heap.size w w' := by
  have hx1 := hx.alloc (.cells #[.int .i64 n, .slice a xs.length cap] 28)
  have hlen := hx.len
  cases hr : relB n xs
  · have HR : Hid (ordB n xs = false) := by simp [Hid, ordB, hr]
    go_enter Try.func51, Try.ntmps51
    go_wp2_with fail
    refine (orRelation_any _ _ _ _ _ hx1).mono ?_
    rintro e w1 ⟨rfl, hb1⟩
    go_wp2_with fail
    go_ret
    exact ⟨ret_bool HR.out.symm, Below.trans (by repeat (first | exact Below.refl _ _ | assumption | refine Below.alloc ?_ (by first | exact Nat.le_refl _ | (simp only [World.size_alloc, World.size_setCell, World.size_drew]; omega) | omega) _ | refine Below.setCell ?_ (by first | exact Nat.le_refl _ | (simp only [World.size_alloc, World.size_setCell, World.size_drew]; omega) | omega) _ | refine Below.drew ?_)) (hb1.mono (by first | (simp only [World.size_alloc, World.size_setCell, World.size_drew]; omega) | omega))⟩
  · have hp := relB_p hr
    go_enter Try.func51, Try.ntmps51
    go_wp2_with fail
    refine (orRelation_any _ _ _ _ _ hx1).mono ?_
    rintro e w1 ⟨rfl, hb1⟩
    have B1 := (Box2.new w _ _ _).below hb1
    have ⟨z1, c1, d1⟩ := B1
    have bw1 : Below w.heap.size w w1 := Below.trans (by repeat (first | exact Below.refl _ _ | assumption | refine Below.alloc ?_ (by first | exact Nat.le_refl _ | (simp only [World.size_alloc, World.size_setCell, World.size_drew]; omega) | omega) _ | refine Below.setCell ?_ (by first | exact Nat.le_refl _ | (simp only [World.size_alloc, World.size_setCell, World.size_drew]; omega) | omega) _ | refine Below.drew ?_)) (hb1.mono (by first | (simp only [World.size_alloc, World.size_setCell, World.size_drew]; omega) | omega))
    have HR := Lib.hid hr
    clear hb1
    go_wp2_with fail
    clear hr
    go_loopw [13] (fun i wr => ∃ k : Nat, k ≤ xs.length ∧ i = .int .i64 k ∧ (∀ j, j < k → okAtB xs j = true) ∧ Below w1.heap.size w1 wr) (fun i _ => xs.length - (intOf i).toNat)
    case atStart => exact ⟨0, Nat.zero_le _, rfl, fun j hj => by omega, Below.refl _ _⟩
    case round =>
      obtain ⟨k, hk, rfl, hall, hb⟩ := hrel
      have Br := B1.below hb
      have ⟨zr, cr, dr⟩ := Br
      have bwr := bw1.trans (hb.mono bw1.size)
      have HA := Lib.hid hall
      clear hall c1 d1
      by_cases hlt : k < xs.length
      · obtain ⟨b, off, rfl, hbl, hc⟩ := (hx.below bwr).cell k hlt
        have hpk := hp.pos k hlt
        have hsk := hp.small k hlt
        have hsk' : nth xs k ≤ 9223372036854775807 := by omega
        cases hin : hasB (nth xs k) k
        · go_wp2_with fail
          refine (orHas_any _ _ _ hpk hsk' (by omega)).mono ?_
          rintro e w' ⟨rfl, rfl⟩
          go_wp2_with fail
          refine (orList_any _ _ hpk hsk).mono ?_
          rintro e w2 ⟨a2, cap2, rfl, ho2, hb2⟩
          have ⟨z2, c2, d2⟩ := Br.below hb2
          have bw2 := bwr.trans (hb2.mono bwr.size)
          have hx2 := hx.below bw2
          have hr2 := ho2.rd
          have bk2 := hb.trans (hb2.mono hb.size)
          have hel := elems_len (nth xs k).toNat
          have HI := Lib.hid hin
          clear hin cr dr hc
          obtain ⟨es, hes⟩ : ∃ es, es = elems (nth xs k).toNat := ⟨_, rfl⟩
          rw [← hes] at ho2 hr2 hel
          have HES := Lib.hid hes
          rw [← hes]
          clear hes ho2 hb2
          go_wp2_with fail
          go_loop [24] (fun i => ∃ j : Nat, j ≤ es.length ∧ i = .int .i64 j ∧ (∀ m, m < j → sub (nth xs (nth es m).toNat).toNat (nth xs k).toNat = 0)) (fun i => es.length - (intOf i).toNat)
          case atStart => exact ⟨0, Nat.zero_le _, rfl, fun m hm => by omega⟩
          case round =>
            obtain ⟨j, hj, rfl, hin2⟩ := hrel
            have HIN := Lib.hid hin2
            clear hin2
            by_cases hjl : j < es.length
            · obtain ⟨b2, off2, rfl, hbl2, hc2⟩ := hr2.cell j hjl
              obtain ⟨i, hil, hib, hie⟩ : ∃ i : Nat, i < xs.length ∧ hasB (nth xs k) i = true ∧ nth es j = (i : Int) := by
                have := elem_at hp hlt (m := j) (by rw [← HES.out]; exact hjl)
                rw [← HES.out] at this
                exact this
              obtain ⟨b3, off3, e3, hbl3, hc3⟩ := hx2.cell i hil
              simp only [Option.some.injEq, Addr.mk.injEq, and_true] at e3
              obtain ⟨rfl, rfl⟩ := e3
              have hpi := hp.pos i hil
              have hsi := hp.small i hil
              have hsub := sub_i (a := nth xs i) (b := nth xs k) hpi (by omega) hpk (by omega)
              have HB := Lib.hid hib
              have HE := Lib.hid hie
              rw [hie] at hc2
              clear hib hie
              by_cases hz : sub (nth xs i).toNat (nth xs k).toNat = 0
              · have hne : (bits BinOp.andNot IntKind.i64 (nth xs i) (nth xs k) != 0) = false := by rw [hsub, hz]; rfl
                have HZ := Lib.hid hz
                clear hz hsub
                go_wp2_with fail
                go_round
                case rel =>
                  refine ⟨j + 1, by omega, by go_num, fun m hm => ?_⟩
                  by_cases e : m = j
                  · rw [e, HE.out, Int.toNat_natCast]; exact HZ.out
                  · exact HIN.out m (by omega)
                case measure => simp [intOf]; omega
              · have hne : (bits BinOp.andNot IntKind.i64 (nth xs i) (nth xs k) != 0) = true := by rw [hsub]; simp; omega
                have HN := Lib.hid (ordB_no (n := n) hlt (okAtB_sub hil HB.out hz))
                clear hz hsub
                go_wp2_with fail
                go_ret
                exact ⟨ret_bool HN.out.symm, bw2⟩
            · obtain rfl : j = es.length := by omega
              have hok : okAtB xs k = true := by
                rw [okAtB_iff]
                refine ⟨HI.out, fun j hj hbj => ?_⟩
                obtain ⟨m, hm, e⟩ := at_elem hp hlt hbj
                rw [← HES.out] at hm e
                have := HIN.out m hm
                rwa [e, Int.toNat_natCast] at this
              have HK := Lib.hid hok
              clear hok
              go_wp2_with fail
              go_roundw
              case rel =>
                refine ⟨k + 1, by omega, by go_num, fun j hj => ?_, bk2⟩
                by_cases e : j = k
                · rw [e]; exact HK.out
                · exact HA.out j (by omega)
              case measure => simp [intOf]; omega
        · have HN := Lib.hid (ordB_no (n := n) hlt (okAtB_has hin))
          go_wp2_with fail
          refine (orHas_any _ _ _ hpk hsk' (by omega)).mono ?_
          rintro e w' ⟨rfl, rfl⟩
          go_wp2_with fail
          go_ret
          exact ⟨ret_bool HN.out.symm, bwr⟩
      · obtain rfl : k = xs.length := by omega
        go_wp2_with fail
        go_ret
        exact ⟨ret_bool (ordB_iff.2 ⟨HR.out, HA.out⟩).symm, bwr⟩

set_option maxRecDepth 100000 in
theorem sRefine_any (n : Int) (a : Option Addr) (xs : List Int) (cap : Nat) (m : Int) (b : Option Addr) (ys : List Int) (cap2 : Nat) (w : World) (hn : -9223372036854775808 ≤ n ∧ n ≤ 9223372036854775807) (hx : Rd w a xs) (hm : -9223372036854775808 ≤ m ∧ m ≤ 9223372036854775807) (hy : Rd w b ys) :
    Calls Try.prog 14 #[.agg #[.int .i64 n, .slice a xs.length cap], .agg #[.int .i64 m, .slice b ys.length cap2]] w fun e w' => e = .returned (.tuple #[.bool (refB n xs m ys), .bool (meetOk n xs m ys)]) ∧ Below w.heap.size w w' := by
  have hx1 := (hx.alloc (.cells #[.int .i64 n, .slice a xs.length cap] 28)).alloc (.cells #[.int .i64 m, .slice b ys.length cap2] 28)
  clear hn hm
  go_enter Try.func14, Try.ntmps14
  go_wp2_with fail
  refine (orGood_any _ _ _ _ _ hx1).mono ?_
  rintro e w1 ⟨rfl, hb1⟩
  obtain ⟨A1, B1, bw1⟩ := boxes2 hb1
  clear hb1 hx1
  cases hg : ordB n xs
  · have H0 : Hid (meetOk n xs m ys = false) := by simp [Hid, meetOk, hg]
    have H1 : Hid (refB n xs m ys = false) := by simp [Hid, refB, H0.out]
    clear hg
    go_wp2_with fail
    go_ret2
    exact ⟨ret_2b H1.out.symm H0.out.symm, bw1⟩
  · have hp := ord_rel hg
    have HG := Lib.hid hg
    clear hg
    have ⟨zB, cB, dB⟩ := B1
    go_wp2_with fail
    refine (orGood_any _ _ _ _ _ (hy.below bw1)).mono ?_
    rintro e w2 ⟨rfl, hb2⟩
    have bw2 : Below w.heap.size w w2 := bw1.trans (hb2.mono bw1.size)
    have A2 := A1.below hb2
    have B2 := B1.below hb2
    clear A1 B1 cB dB zB hb2
    have ⟨zA, cA, dA⟩ := A2
    have ⟨zB, cB, dB⟩ := B2
    cases hh : ordB m ys
    · have H0 : Hid (meetOk n xs m ys = false) := by simp [Hid, meetOk, hh]
      have H1 : Hid (refB n xs m ys = false) := by simp [Hid, refB, H0.out]
      clear hh
      go_wp2_with fail
      go_ret2
      exact ⟨ret_2b H1.out.symm H0.out.symm, bw2⟩
    · have hq := ord_rel hh
      have HH := Lib.hid hh
      clear hh
      by_cases hs : n = m
      · subst hs
        have H0 : Hid (meetOk n xs n ys = true) := meetOk_iff.2 ⟨HG.out, HH.out, rfl⟩
        have h10 : ys.length ≤ 10 := by have := hq.len; have := hq.n1; omega
        have HXL : Hid (xs.length = ys.length) := by have := hq.len; have := hp.len; simp only [Hid]; omega
        go_wp2_with fail
        go_loop [26] (fun i => ∃ k : Nat, k ≤ ys.length ∧ i = .int .i64 k ∧ ∀ j, j < k → sub (nth ys j).toNat (nth xs j).toNat = 0) (fun i => ys.length - (intOf i).toNat)
        case atStart => exact ⟨0, Nat.zero_le _, rfl, fun j hj => by omega⟩
        case round =>
          obtain ⟨k, hk, rfl, hall⟩ := hrel
          have HA := Lib.hid hall
          clear hall
          by_cases hlt : k < ys.length
          · have hkx : k < xs.length := by rw [HXL.out]; exact hlt
            have hkx1 : (k : Int) < (xs.length : Int) := by omega
            have k0 : (0 : Int) ≤ (k : Int) := by omega
            have k1 : (k : Int) < (ys.length : Int) := by omega
            obtain ⟨b1, off1, rfl, hbl1, hc1⟩ := (hx.below bw2).cell k hkx
            obtain ⟨b2, off2, rfl, hbl2, hc2⟩ := (hy.below bw2).cell k hlt
            have hsub := sub_i (hq.pos k hlt) (by have := hq.small k hlt; omega) (hp.pos k hkx) (by have := hp.small k hkx; omega)
            obtain ⟨S, hS⟩ : ∃ S, S = sub (nth ys k).toNat (nth xs k).toNat := ⟨_, rfl⟩
            rw [← hS] at hsub
            have HS := Lib.hid hS
            by_cases hz : S = 0
            · have hz1 : (bits .andNot .i64 (nth ys k) (nth xs k) != 0) = false := by rw [hsub]; simp [hz]
              have HZ := Lib.hid hz
              clear hz hS hsub
              go_wp2_with fail
              go_round
              case rel =>
                refine ⟨k + 1, by omega, by go_num, fun j hj => ?_⟩
                by_cases e : j = k
                · rw [e, ← HS.out]; exact HZ.out
                · exact HA.out j (by omega)
              case measure => simp [intOf]; omega
            · have hz1 : (bits .andNot .i64 (nth ys k) (nth xs k) != 0) = true := by rw [hsub]; simp; omega
              have H1 : Hid (refB n xs n ys = false) := by
                rw [Hid, ← Bool.not_eq_true, ref_iff hp hq H0.out]
                intro h
                exact hz (by rw [HS.out]; exact h k hlt)
              clear hz hS hsub
              go_wp2_with fail
              go_ret2
              exact ⟨ret_2b H1.out.symm H0.out.symm, bw2⟩
          · obtain rfl : k = ys.length := by omega
            have H1 : Hid (refB n xs n ys = true) := (ref_iff hp hq H0.out).2 HA.out
            go_wp2_with fail
            go_ret2
            exact ⟨ret_2b H1.out.symm H0.out.symm, bw2⟩
      · have H0 : Hid (meetOk n xs m ys = false) := by simp [Hid, meetOk, hs]
        have H1 : Hid (refB n xs m ys = false) := by simp [Hid, refB, H0.out]
        have hsn : (n != m) = true := by simp [hs]
        clear hs
        go_wp2_with fail
        go_ret2
        exact ⟨ret_2b H1.out.symm H0.out.symm, bw2⟩

theorem boxes3 {w w1 : World} {u v u2 v2 : Value} (hb1 : Below (((w.alloc (.cells #[u, v] 28)).alloc (.cells #[u2, v2] 28)).alloc (.cells #[.int .i64 0, .slice none 0 0] 28)).heap.size (((w.alloc (.cells #[u, v] 28)).alloc (.cells #[u2, v2] 28)).alloc (.cells #[.int .i64 0, .slice none 0 0] 28)) w1) :
    Box2 w1 w.heap.size u v ∧ Box2 w1 (w.heap.size + 1) u2 v2 ∧ Var2 w1 (w.heap.size + 2) (.int .i64 0) (.slice none 0 0) ∧ Below w.heap.size w w1 := by
  refine ⟨((Box2.new w u v 28).below (((Below.refl _ _).alloc (Nat.le_refl _) _).alloc (by simp) _)).below hb1, ?_, ?_, Below.trans (by repeat (first | exact Below.refl _ _ | assumption | refine Below.alloc ?_ (by first | exact Nat.le_refl _ | (simp only [World.size_alloc, World.size_setCell, World.size_drew]; omega) | omega) _ | refine Below.setCell ?_ (by first | exact Nat.le_refl _ | (simp only [World.size_alloc, World.size_setCell, World.size_drew]; omega) | omega) _ | refine Below.drew ?_)) (hb1.mono (by first | (simp only [World.size_alloc, World.size_setCell, World.size_drew]; omega) | omega))⟩
  · have h := ((Box2.new (w.alloc (.cells #[u, v] 28)) u2 v2 28).below ((Below.refl _ _).alloc (Nat.le_refl _) (.cells #[.int .i64 0, .slice none 0 0] 28))).below hb1
    simpa using h
  · have h := (Var2.new ((w.alloc (.cells #[u, v] 28)).alloc (.cells #[u2, v2] 28)) (.int .i64 0) (.slice none 0 0) 28).below hb1
    simpa using h

/-- the set of all elements above one of those of a set that are less than k -/
def aboveTo (xs : List Int) (s : Int) : Nat → Nat
  | 0 => 0
  | k+1 => if hasB s k then aboveTo xs s k ||| (nth xs k).toNat else aboveTo xs s k
theorem aboveTo_lt {n : Int} {xs : List Int} (hp : RelP n xs) (s : Int) : ∀ k, k ≤ xs.length → aboveTo xs s k < 2 ^ 10
  | 0, _ => by simp [aboveTo]
  | k+1, hk => by
    have h := aboveTo_lt hp s k (by omega)
    have h1 := hp.small k (by omega)
    have h0 := hp.pos k (by omega)
    simp only [aboveTo]
    split
    · exact or_lt h (by omega)
    · exact h
theorem aboveTo_bit (xs : List Int) (s : Int) (j : Nat) : ∀ k, (aboveTo xs s k).testBit j = true ↔ ∃ i, i < k ∧ hasB s i = true ∧ (nth xs i).toNat.testBit j = true
  | 0 => by simp [aboveTo]
  | k+1 => by
    have ih := aboveTo_bit xs s j k
    simp only [aboveTo]
    cases hb : hasB s k
    · rw [if_neg (by simp), ih]
      constructor
      · rintro ⟨i, h1, h2, h3⟩
        exact ⟨i, by omega, h2, h3⟩
      · rintro ⟨i, h1, h2, h3⟩
        have : i ≠ k := fun e => by rw [e, hb] at h2; cases h2
        exact ⟨i, by omega, h2, h3⟩
    · rw [if_pos rfl, Nat.testBit_or, Bool.or_eq_true, ih]
      constructor
      · rintro (⟨i, h1, h2, h3⟩ | h)
        · exact ⟨i, by omega, h2, h3⟩
        · exact ⟨k, by omega, hb, h⟩
      · rintro ⟨i, h1, h2, h3⟩
        by_cases e : i = k
        · subst e; exact .inr h3
        · exact .inl ⟨i, by omega, h2, h3⟩
theorem okAtB_above {xs : List Int} {k : Nat} (h : hasB (nth xs k) k = false) : okAtB xs k = (sub (aboveTo xs (nth xs k) xs.length) (nth xs k).toNat == 0) := by
  rw [Bool.eq_iff_iff, okAtB_iff, beq_iff_eq, sub_zero]
  constructor
  · rintro ⟨_, h2⟩ i hi
    obtain ⟨j, hj, hb, ht⟩ := (aboveTo_bit _ _ _ _).1 hi
    exact sub_zero.1 (h2 j hj hb) i ht
  · intro h2
    refine ⟨h, fun j hj hb => sub_zero.2 (fun i hi => h2 i ((aboveTo_bit _ _ _ _).2 ⟨j, hj, hb, hi⟩))⟩

theorem hasElement_any (s i : Int) (w : World) (h0 : 0 ≤ s) (h1 : s ≤ 9223372036854775807) (hi : 0 ≤ i) :
    Calls Try.prog 83 #[.int .i64 s, .int .i64 i] w fun e w' => e = .returned (.bool (hasB s i)) ∧ w = w' := by
  have H := Lib.hid (has_and h0 h1 hi)
  go_enter Try.func83, Try.ntmps83
  go_wp2
  go_ret
  exact ⟨ret_bool H.out, rfl⟩

theorem aboveAny_any (n : Int) (a : Option Addr) (xs : List Int) (cap : Nat) (s : Int) (w : World) (hx : Rd w a xs) (hr : RelP n xs) (h0 : 0 ≤ s) (h1 : s ≤ 9223372036854775807) :
    Calls Try.prog 84 #[.agg #[.int .i64 n, .slice a xs.length cap], .int .i64 s] w fun e w' => e = .returned (.int .i64 (aboveTo xs s xs.length)) ∧ Below w.heap.size w w' := by
  have hx1 := hx.alloc (.cells #[.int .i64 n, .slice a xs.length cap] 28)
  obtain rfl : n = (xs.length : Int) := hr.len.symm
  have hn : xs.length ≤ 10 := by have := hr.n1; omega
  go_enter Try.func84, Try.ntmps84
  go_wp2_with fail
  go_loop [5, 9] (fun s' i' => ∃ k : Nat, k ≤ xs.length ∧ i' = .int .i64 k ∧ s' = .int .i64 (aboveTo xs s k)) (fun _ i => xs.length - (intOf i).toNat)
  case atStart => exact ⟨0, Nat.zero_le _, rfl, rfl⟩
  case round =>
    obtain ⟨k, hk, rfl, rfl⟩ := hrel
    by_cases hlt : k < xs.length
    · obtain ⟨b, off, rfl, hbl, hc⟩ := hx1.cell k hlt
      obtain ⟨b', off', e', hbl', hc'⟩ := hx.cell k hlt
      simp only [Option.some.injEq, Addr.mk.injEq, and_true] at e'
      obtain ⟨rfl, rfl⟩ := e'
      have hpk := hr.pos k hlt
      have hsk := hr.small k hlt
      have hab := aboveTo_lt hr s k hk
      have hor := Lib.hid (or_i (a := (aboveTo xs s k : Nat)) (b := nth xs k) (by omega) (by omega) hpk (by omega))
      clear hab
      cases hin : hasB s k
      · go_wp2_with (go_at_call 83; refine (hasElement_any _ _ _ h0 h1 (by omega)).mono ?_; rintro e w' ⟨rfl, rfl⟩)
        go_round
        case rel => exact ⟨k + 1, by omega, by go_num, by simp [aboveTo, hin]⟩
        case measure => simp [intOf]; omega
      · go_wp2_with (go_at_call 83; refine (hasElement_any _ _ _ h0 h1 (by omega)).mono ?_; rintro e w' ⟨rfl, rfl⟩)
        go_round
        case rel => exact ⟨k + 1, by omega, by go_num, val_int (by rw [hor.out]; simp [aboveTo, hin])⟩
        case measure => simp [intOf]; omega
    · obtain rfl : k = xs.length := by omega
      go_wp2_with fail
      go_ret
      exact ⟨rfl, (by repeat (first | exact Below.refl _ _ | assumption | refine Below.alloc ?_ (by first | exact Nat.le_refl _ | (simp only [World.size_alloc, World.size_setCell, World.size_drew]; omega) | omega) _ | refine Below.setCell ?_ (by first | exact Nat.le_refl _ | (simp only [World.size_alloc, World.size_setCell, World.size_drew]; omega) | omega) _ | refine Below.drew ?_))⟩

theorem fullSet_any (n : Int) (w : World) (h0 : 0 ≤ n) (h1 : n ≤ 10) :
    Calls Try.prog 150 #[.int .i64 n] w fun e w' => e = .returned (.int .i64 (2 ^ n.toNat - 1)) ∧ w = w' := by
  have hf := Lib.hid (full_eq h0 h1)
  go_enter Try.func150, Try.ntmps150
  go_wp2
  go_ret
  exact ⟨ret_int hf.out, rfl⟩

theorem isSet_any (s n : Int) (w : World) (h0' : 0 ≤ n) (h1' : n ≤ 10) :
    Calls Try.prog 134 #[.int .i64 s, .int .i64 n] w fun e w' => e = .returned (.bool (inB s 0 (2 ^ n.toNat - 1))) ∧ w = w' := by
  by_cases h0 : 0 ≤ s
  · by_cases h1 : s ≤ 2 ^ n.toNat - 1
    · have hf := Lib.hid (inB_iff.2 ⟨h0, h1⟩)
      go_enter Try.func134, Try.ntmps134
      go_wp2_with (go_at_call 150; refine (fullSet_any _ _ h0' h1').mono ?_; rintro e w' ⟨rfl, rfl⟩)
      go_ret
      exact ⟨ret_bool (by rw [hf.out]; try simp [h1]), rfl⟩
    · have hf := Lib.hid (inB_no (lo := 0).2 (.inr (show 2 ^ n.toNat - 1 < s by omega)))
      go_enter Try.func134, Try.ntmps134
      go_wp2_with (go_at_call 150; refine (fullSet_any _ _ h0' h1').mono ?_; rintro e w' ⟨rfl, rfl⟩)
      go_ret
      exact ⟨ret_bool (by rw [hf.out]; try simp [h1]), rfl⟩
  · have hf := Lib.hid (inB_no (hi := 2 ^ n.toNat - 1).2 (.inl (show s < 0 by omega)))
    go_enter Try.func134, Try.ntmps134
    go_wp2_with fail
    go_ret
    exact ⟨ret_bool (by rw [hf.out]; try simp [h1]), rfl⟩

theorem areSets_any (a : Option Addr) (xs : List Int) (cap : Nat) (n : Int) (w : World) (hx : Rd w a xs) (h0' : 0 ≤ n) (h1' : n ≤ 10) :
    Calls Try.prog 109 #[.slice a xs.length cap, .int .i64 n] w fun e w' => e = .returned (.bool (allB xs 0 (2 ^ n.toNat - 1))) ∧ w = w' := by
  have hlen := hx.len
  go_enter Try.func109, Try.ntmps109
  go_wp2_with fail
  go_loop [9] (fun i => ∃ k : Nat, k ≤ xs.length ∧ i = .int .i64 k ∧ allB (xs.take k) 0 (2 ^ n.toNat - 1) = true) (fun i => xs.length - (intOf i).toNat)
  case atStart => exact ⟨0, Nat.zero_le _, rfl, rfl⟩
  case round =>
    obtain ⟨k, hk, rfl, hall⟩ := hrel
    by_cases hlt : k < xs.length
    · obtain ⟨b, off, rfl, hbl, hc⟩ := hx.cell k hlt
      cases hin : inB (nth xs k) 0 (2 ^ n.toNat - 1)
      · have hf := Lib.hid (allB_false hlt hin)
        go_wp2_with (go_at_call 134; refine (isSet_any _ _ _ h0' h1').mono ?_; rintro e w' ⟨rfl, rfl⟩)
        go_ret
        exact ⟨ret_bool hf.out.symm, rfl⟩
      · go_wp2_with (go_at_call 134; refine (isSet_any _ _ _ h0' h1').mono ?_; rintro e w' ⟨rfl, rfl⟩)
        go_round
        case rel => exact ⟨k + 1, by omega, by go_num, by rw [allB_take _ _ _ _ hlt, hall, hin]; rfl⟩
        case measure => simp [intOf]; omega
    · go_wp2_with fail
      go_ret
      exact ⟨ret_bool (by rw [← hall, List.take_of_length_le (by omega)]), rfl⟩

theorem iIsRelation_any (n : Int) (a : Option Addr) (xs : List Int) (cap : Nat) (w : World) (_hn : -9223372036854775808 ≤ n ∧ n ≤ 9223372036854775807) (hx : Rd w a xs) :
    Calls Try.prog 82 #[.agg #[.int .i64 n, .slice a xs.length cap]] w fun e w' => e = .returned (.bool (relB n xs)) ∧ Below w.heap.size w w' := by
  have hx1 := hx.alloc (.cells #[.int .i64 n, .slice a xs.length cap] 28)
  have hlen := hx.len
  by_cases h0 : 0 ≤ n
  · by_cases h1 : n ≤ 10
    · cases h2 : ((xs.length : Int) == n)
      · have HR : Hid (relB n xs = false) := by
          have : ¬ (xs.length : Int) = n := by simpa using h2
          simp [Hid, relB, this]
        go_enter Try.func82, Try.ntmps82
        go_wp2_with fail
        go_ret
        exact ⟨ret_bool HR.out.symm, (by repeat (first | exact Below.refl _ _ | assumption | refine Below.alloc ?_ (by first | exact Nat.le_refl _ | (simp only [World.size_alloc, World.size_setCell, World.size_drew]; omega) | omega) _ | refine Below.setCell ?_ (by first | exact Nat.le_refl _ | (simp only [World.size_alloc, World.size_setCell, World.size_drew]; omega) | omega) _ | refine Below.drew ?_))⟩
      · have HR : Hid (relB n xs = allB xs 0 (2 ^ n.toNat - 1)) := by
          have : (xs.length : Int) = n := by simpa using h2
          simp [Hid, relB, inB, h0, h1, this]
        go_enter Try.func82, Try.ntmps82
        go_wp2_with fail
        refine (areSets_any _ _ _ _ _ hx1 h0 h1).mono ?_
        rintro e w' ⟨rfl, rfl⟩
        go_wp2_with fail
        go_ret
        exact ⟨ret_bool HR.out.symm, (by repeat (first | exact Below.refl _ _ | assumption | refine Below.alloc ?_ (by first | exact Nat.le_refl _ | (simp only [World.size_alloc, World.size_setCell, World.size_drew]; omega) | omega) _ | refine Below.setCell ?_ (by first | exact Nat.le_refl _ | (simp only [World.size_alloc, World.size_setCell, World.size_drew]; omega) | omega) _ | refine Below.drew ?_))⟩
    · have HR : Hid (relB n xs = false) := by simp [Hid, relB, inB]; omega
      go_enter Try.func82, Try.ntmps82
      go_wp2_with fail
      go_ret
      exact ⟨ret_bool HR.out.symm, (by repeat (first | exact Below.refl _ _ | assumption | refine Below.alloc ?_ (by first | exact Nat.le_refl _ | (simp only [World.size_alloc, World.size_setCell, World.size_drew]; omega) | omega) _ | refine Below.setCell ?_ (by first | exact Nat.le_refl _ | (simp only [World.size_alloc, World.size_setCell, World.size_drew]; omega) | omega) _ | refine Below.drew ?_))⟩
  · have HR : Hid (relB n xs = false) := by simp [Hid, relB, inB]; omega
    go_enter Try.func82, Try.ntmps82
    go_wp2_with fail
    go_ret
    exact ⟨ret_bool HR.out.symm, (by repeat (first | exact Below.refl _ _ | assumption | refine Below.alloc ?_ (by first | exact Nat.le_refl _ | (simp only [World.size_alloc, World.size_setCell, World.size_drew]; omega) | omega) _ | refine Below.setCell ?_ (by first | exact Nat.le_refl _ | (simp only [World.size_alloc, World.size_setCell, World.size_drew]; omega) | omega) _ | refine Below.drew ?_))⟩

theorem iIsOrder_any (n : Int) (a : Option Addr) (xs : List Int) (cap : Nat) (w : World) (hn : -9223372036854775808 ≤ n ∧ n ≤ 9223372036854775807) (hx : Rd w a xs) :
    Calls Try.prog 54 #[.agg #[.int .i64 n, .slice a xs.length cap]] w fun e w' => e = .returned (.bool (ordB n xs)) ∧ Below w.heap.size w w' := by
  have hx1 := hx.alloc (.cells #[.int .i64 n, .slice a xs.length cap] 28)
  have hlen := hx.len
  cases hr : relB n xs
  · have HR : Hid (ordB n xs = false) := by simp [Hid, ordB, hr]
    go_enter Try.func54, Try.ntmps54
    go_wp2_with fail
    refine (iIsRelation_any _ _ _ _ _ hn hx1).mono ?_
    rintro e w1 ⟨rfl, hb1⟩
    go_wp2_with fail
    go_ret
    exact ⟨ret_bool HR.out.symm, Below.trans (by repeat (first | exact Below.refl _ _ | assumption | refine Below.alloc ?_ (by first | exact Nat.le_refl _ | (simp only [World.size_alloc, World.size_setCell, World.size_drew]; omega) | omega) _ | refine Below.setCell ?_ (by first | exact Nat.le_refl _ | (simp only [World.size_alloc, World.size_setCell, World.size_drew]; omega) | omega) _ | refine Below.drew ?_)) (hb1.mono (by first | (simp only [World.size_alloc, World.size_setCell, World.size_drew]; omega) | omega))⟩
  · have hp := relB_p hr
    go_enter Try.func54, Try.ntmps54
    go_wp2_with fail
    refine (iIsRelation_any _ _ _ _ _ hn hx1).mono ?_
    rintro e w1 ⟨rfl, hb1⟩
    have B1 := (Box2.new w _ _ _).below hb1
    have ⟨z1, c1, d1⟩ := B1
    have bw1 : Below w.heap.size w w1 := Below.trans (by repeat (first | exact Below.refl _ _ | assumption | refine Below.alloc ?_ (by first | exact Nat.le_refl _ | (simp only [World.size_alloc, World.size_setCell, World.size_drew]; omega) | omega) _ | refine Below.setCell ?_ (by first | exact Nat.le_refl _ | (simp only [World.size_alloc, World.size_setCell, World.size_drew]; omega) | omega) _ | refine Below.drew ?_)) (hb1.mono (by first | (simp only [World.size_alloc, World.size_setCell, World.size_drew]; omega) | omega))
    have HR := Lib.hid hr
    clear hb1
    go_wp2_with fail
    clear hr
    go_loopw [11] (fun i wr => ∃ k : Nat, k ≤ xs.length ∧ i = .int .i64 k ∧ (∀ j, j < k → okAtB xs j = true) ∧ Below w1.heap.size w1 wr) (fun i _ => xs.length - (intOf i).toNat)
    case atStart => exact ⟨0, Nat.zero_le _, rfl, fun j hj => by omega, Below.refl _ _⟩
    case round =>
      obtain ⟨k, hk, rfl, hall, hb⟩ := hrel
      have ⟨zr, cr, dr⟩ := B1.below hb
      have bwr := bw1.trans (hb.mono bw1.size)
      have HA := Lib.hid hall
      clear hall c1 d1
      by_cases hlt : k < xs.length
      · obtain ⟨b, off, rfl, hbl, hc⟩ := (hx.below bwr).cell k hlt
        have hpk := hp.pos k hlt
        have hsk := hp.small k hlt
        have hsk' : nth xs k ≤ 9223372036854775807 := by omega
        cases hin : hasB (nth xs k) k
        · have hab := aboveTo_lt hp (nth xs k) xs.length (Nat.le_refl _)
          have hsub := sub_i (a := (aboveTo xs (nth xs k) xs.length : Nat)) (b := nth xs k) (by omega) (by omega) hpk (by omega)
          have hok := okAtB_above hin
          rw [Int.toNat_natCast] at hsub
          cases hok2 : okAtB xs k
          · rw [hok2] at hok
            have hne : (bits BinOp.andNot IntKind.i64 ((aboveTo xs (nth xs k) xs.length : Nat) : Int) (nth xs k) != 0) = true := by
              rw [hsub]
              simpa using hok.symm
            have HN := Lib.hid (ordB_no (n := n) hlt hok2)
            clear hok2 hok hsub hab
            go_wp2_with fail
            refine (hasElement_any _ _ _ hpk hsk' (by omega)).mono ?_
            rintro e w' ⟨rfl, rfl⟩
            go_wp2_with fail
            refine (aboveAny_any _ _ _ _ _ _ (hx.below bwr) hp hpk hsk').mono ?_
            rintro e w2 ⟨rfl, hb2⟩
            go_wp2_with fail
            go_ret
            exact ⟨ret_bool HN.out.symm, bwr.trans (hb2.mono bwr.size)⟩
          · rw [hok2] at hok
            have hne : (bits BinOp.andNot IntKind.i64 ((aboveTo xs (nth xs k) xs.length : Nat) : Int) (nth xs k) != 0) = false := by
              rw [hsub]
              simpa using hok.symm
            have HN := Lib.hid hok2
            clear hok2 hok hsub hab
            go_wp2_with fail
            refine (hasElement_any _ _ _ hpk hsk' (by omega)).mono ?_
            rintro e w' ⟨rfl, rfl⟩
            go_wp2_with fail
            refine (aboveAny_any _ _ _ _ _ _ (hx.below bwr) hp hpk hsk').mono ?_
            rintro e w2 ⟨rfl, hb2⟩
            go_wp2_with fail
            go_roundw
            case rel =>
              refine ⟨k + 1, by omega, by go_num, fun j hj => ?_, hb.trans (hb2.mono hb.size)⟩
              by_cases e : j = k
              · rw [e]; exact HN.out
              · exact HA.out j (by omega)
            case measure => simp [intOf]; omega
        · have HN := Lib.hid (ordB_no (n := n) hlt (okAtB_has hin))
          go_wp2_with fail
          refine (hasElement_any _ _ _ hpk hsk' (by omega)).mono ?_
          rintro e w' ⟨rfl, rfl⟩
          go_wp2_with fail
          go_ret
          exact ⟨ret_bool HN.out.symm, bwr⟩
      · obtain rfl : k = xs.length := by omega
        go_wp2_with fail
        go_ret
        exact ⟨ret_bool (ordB_iff.2 ⟨HR.out, HA.out⟩).symm, bwr⟩

def belows (xs : List Int) (k : Nat) : List Int := fmap (fun i => ((belowTo xs i xs.length : Nat) : Int)) k
theorem belows_len (xs : List Int) (k : Nat) : (belows xs k).length = k := fmap_len _ _

def mirN (n : Int) (xs : List Int) : Int := if relB n xs then n else 0
def mirL (n : Int) (xs : List Int) : List Int := if relB n xs then belows xs xs.length else []
theorem mirL_len (n : Int) (xs : List Int) : (mirL n xs).length ≤ 1048576 := by
  unfold mirL
  split
  · rename_i h
    have hp := relB_p h
    have := hp.len
    have := hp.n1
    rw [belows_len]
    omega
  · simp
/-- what a call hands back that makes an order -/
def GotO (w : World) (n : Int) (ys : List Int) (ok : Bool) (e : Ending) (w' : World) : Prop :=
  ∃ a cap, e = .returned (.tuple #[.agg #[.int .i64 n, .slice a ys.length cap], .bool ok]) ∧ OwnI w' w.heap.size (.slice a ys.length cap) ys ∧ Below w.heap.size w w'

theorem got_no {w w' : World} {n : Int} {ys : List Int} {ok : Bool} (h1 : n = 0) (h2 : ys = []) (h3 : ok = false) (hb : Below w.heap.size w w') : GotO w n ys ok (.returned (.tuple #[.agg #[.int .i64 0, .slice none 0 0], .bool false])) w' := by
  subst h1 h2 h3
  exact ⟨none, 0, rfl, OwnI.nil _ _, hb⟩

/-- a row of m integers of which the first k are filled, f 0 .. -/
def rowF (f : Nat → Int) (m k : Nat) : List Int := fmap f k ++ List.replicate (m - k) 0
theorem rowF_len (f : Nat → Int) {m k : Nat} (h : k ≤ m) : (rowF f m k).length = m := by simp [rowF, fmap_len]; omega
theorem rowF_set (f : Nat → Int) {m k : Nat} (h : k < m) : (rowF f m k).set k (f k) = rowF f m (k+1) := by
  apply List.ext_getElem?
  intro j
  rw [List.getElem?_set]
  by_cases hj : k = j
  · subst hj
    rw [if_pos rfl, if_pos (by rw [rowF_len f (by omega)]; exact h), rowF, List.getElem?_append_left (by rw [fmap_len]; omega)]
    simp [fmap]
  · simp only [hj, if_false, rowF, List.getElem?_append, fmap_len, List.getElem?_replicate]
    by_cases h1 : j < k
    · have h2 : j < k + 1 := by omega
      simp [h1, h2, fmap]
    · have h2 : ¬ j < k + 1 := by omega
      have h3 : j - k < m - k ↔ j - (k+1) < m - (k+1) := by omega
      simp [h1, h2, h3]
theorem rowF_zero (f : Nat → Int) {m k : Nat} (h : k < m) : (rowF f m k).set k 0 = rowF f m k := by
  apply List.ext_getElem?
  intro j
  rw [List.getElem?_set]
  by_cases hj : k = j
  · subst hj
    rw [if_pos rfl, if_pos (by rw [rowF_len f (by omega)]; exact h), rowF, List.getElem?_append_right (by rw [fmap_len]; omega)]
    rw [fmap_len, Nat.sub_self, List.getElem?_replicate, if_pos (by omega)]
  · simp [hj]
theorem rowF_end (f : Nat → Int) (m : Nat) : rowF f m m = fmap f m := by simp [rowF]
theorem made_row {w1 : World} {B : Nat} {v : Value} {m : Nat} (f : Nat → Int) (h : w1.ownsRow B 3 1 v m (madeCells (Value.int .i64 0).cells (m * 1)).toList) : OwnI w1 B v (rowF f m 0) := by
  unfold OwnI
  rw [rowF_len f (Nat.zero_le _)]
  simpa [Value.cells, toList_madeCells_one, fmap, rowF] using h

/-- one step of the closing: what is above k goes to i, if k is above i -/
def clStep (xs : List Int) (k i : Nat) : List Int := if hasB (nth xs i) k then xs.set i (((nth xs i).toNat ||| (nth xs k).toNat : Nat) : Int) else xs
def clRow (xs : List Int) (k : Nat) : Nat → List Int
  | 0 => xs
  | i+1 => clStep (clRow xs k i) k i
def clAll (xs : List Int) : Nat → List Int
  | 0 => xs
  | k+1 => clRow (clAll xs k) k xs.length
theorem clStep_len (xs : List Int) (k i : Nat) : (clStep xs k i).length = xs.length := by
  unfold clStep; split <;> simp
theorem clRow_len (xs : List Int) (k : Nat) : ∀ i, (clRow xs k i).length = xs.length
  | 0 => rfl
  | i+1 => by rw [clRow, clStep_len, clRow_len xs k i]
theorem clAll_len (xs : List Int) : ∀ k, (clAll xs k).length = xs.length
  | 0 => rfl
  | k+1 => by rw [clAll, clRow_len, clAll_len xs k]
/-- all numbers of a list are sets below 1024 -/
def Small (xs : List Int) : Prop := ∀ k, k < xs.length → 0 ≤ nth xs k ∧ nth xs k < 1024
theorem nth_set {xs : List Int} {i j : Nat} {x : Int} (hi : i < xs.length) : nth (xs.set i x) j = if i = j then x else nth xs j := by
  simp only [nth, List.getD_eq_getElem?_getD, List.getElem?_set]
  by_cases h : i = j
  · subst h; simp [hi]
  · simp [h]
theorem clStep_small {xs : List Int} (h : Small xs) {k i : Nat} (hk : k < xs.length) (hi : i < xs.length) : Small (clStep xs k i) := by
  unfold clStep
  split
  · intro j hj
    rw [nth_set hi]
    have h1 := h i hi
    have h2 := h k hk
    split
    · have : (nth xs i).toNat ||| (nth xs k).toNat < 2 ^ 10 := or_lt (by omega) (by omega)
      omega
    · exact h j (by simpa using hj)
  · exact h
theorem clRow_small {xs : List Int} (h : Small xs) {k : Nat} (hk : k < xs.length) : ∀ i, i ≤ xs.length → Small (clRow xs k i)
  | 0, _ => h
  | i+1, hi => clStep_small (clRow_small h hk i (by omega)) (by rw [clRow_len]; exact hk) (by rw [clRow_len]; omega)
theorem clAll_small {xs : List Int} (h : Small xs) : ∀ k, k ≤ xs.length → Small (clAll xs k)
  | 0, _ => h
  | k+1, hk => clRow_small (clAll_small h k (by omega)) (by rw [clAll_len]; omega) _ (by rw [clAll_len]; omega)
theorem RelP.sm {n : Int} {xs : List Int} (h : RelP n xs) : Small xs := fun k hk => ⟨h.pos k hk, h.small k hk⟩
theorem set_ints (xs : List Int) (i : Nat) (x : Int) : (xs.map (Value.int .i64)).set i (.int .i64 x) = (xs.set i x).map (Value.int .i64) := by
  rw [List.map_set]
/-- a store into an owned row -/
theorem OwnI.put {w : World} {B g n cap : Nat} {xs : List Int} (h : OwnI w B (.slice (some ⟨g, 0, none⟩) n cap) xs) (hn : n = xs.length) (i : Nat) (x : Int) :
    OwnI (w.setCell ⟨g, i, none⟩ (.int .i64 x)) B (.slice (some ⟨g, 0, none⟩) n cap) (xs.set i x) ∧ w.grownBy (w.setCell ⟨g, i, none⟩ (.int .i64 x)) (some g) := by
  subst hn
  have hst := World.ownsRow.stored h i (.int .i64 x)
  rw [set_ints] at hst
  refine ⟨?_, hst.2⟩
  unfold OwnI
  rw [List.length_set]
  exact hst.1
theorem OwnI.at' {w : World} {B g n cap : Nat} {xs : List Int} (h : OwnI w B (.slice (some ⟨g, 0, none⟩) n cap) xs) (hn : n = xs.length) {i : Nat} (hi : i < xs.length) :
    w.cell? ⟨g, i, none⟩ = some (.int .i64 (nth xs i)) ∧ w.frozen? ⟨g, i, none⟩ = false := by
  subst hn
  refine ⟨?_, World.ownsRow.frozenAt h i⟩
  rw [World.ownsRow.cellAt h i (by omega)]
  simp [nth, hi]
theorem OwnI.head {w : World} {B n cap : Nat} {a : Option Addr} {xs : List Int} (h : OwnI w B (.slice a n cap) xs) (hp : 0 < xs.length) : ∃ g, a = some ⟨g, 0, none⟩ ∧ B ≤ g ∧ g < w.heap.size := by
  rcases h.2 with ⟨e, h0⟩ | ⟨g, c, cur, e, hb, hg, _⟩
  · omega
  · simp only [Value.slice.injEq] at e
    exact ⟨g, e.1, hb, (Array.getElem?_eq_some_iff.1 hg).1⟩
def cloN (n : Int) (xs : List Int) : Int := if relB n xs then n else 0
def cloL (n : Int) (xs : List Int) : List Int := if relB n xs then clAll xs xs.length else []
theorem cloL_len (n : Int) (xs : List Int) : (cloL n xs).length ≤ 1048576 := by
  unfold cloL
  split
  · rename_i h
    have hp := relB_p h
    have := hp.len
    have := hp.n1
    rw [clAll_len]
    omega
  · simp

set_option maxRecDepth 100000 in
theorem iMeet_any (n : Int) (a : Option Addr) (xs : List Int) (cap : Nat) (m : Int) (b : Option Addr) (ys : List Int) (cap2 : Nat) (w : World) (hn : -9223372036854775808 ≤ n ∧ n ≤ 9223372036854775807) (hx : Rd w a xs) (hm : -9223372036854775808 ≤ m ∧ m ≤ 9223372036854775807) (hy : Rd w b ys) :
    Calls Try.prog 19 #[.agg #[.int .i64 n, .slice a xs.length cap], .agg #[.int .i64 m, .slice b ys.length cap2]] w (GotO w (meetN n xs m ys) (meetL n xs m ys) (meetOk n xs m ys)) := by
  obtain ⟨i0, hi, hz0, hz1, hz2⟩ := info_parts infoInt
  have hx1 := ((hx.alloc (.cells #[.int .i64 n, .slice a xs.length cap] 28)).alloc (.cells #[.int .i64 m, .slice b ys.length cap2] 28)).alloc (.cells #[.int .i64 0, .slice none 0 0] 28)
  have HN := Lib.hid hn
  have HM := Lib.hid hm
  clear hn hm
  go_enter Try.func19, Try.ntmps19
  go_wp2_with fail
  refine (iIsOrder_any _ _ _ _ _ HN.out hx1).mono ?_
  rintro e w1 ⟨rfl, hb1⟩
  obtain ⟨A1, B1, R1, bw1⟩ := boxes3 hb1
  clear hb1 hx1
  cases hg : ordB n xs
  · have H0 : Hid (meetOk n xs m ys = false) := by simp [Hid, meetOk, hg]
    have ⟨⟨zR, cR, dR⟩, fR, gR⟩ := R1
    clear hg
    go_wp2_with fail
    have R9 := R1.set (.int .i64 0) (.slice none 0 0)
    refine bodyPost_ret (v := .tuple #[.agg #[.int .i64 0, .slice none 0 0], .bool false]) (by have ⟨⟨_, q1, q2⟩, _, _⟩ := R9; simp [results, Try.results19, go_sem, q1, q2]) rfl ?_
    exact got_no (by simp [meetN, H0.out]) (by simp [meetL, H0.out]) H0.out ((bw1.setCell (by simp <;> omega) _).setCell (by simp <;> omega) _)
  · have hp := ord_rel hg
    have HG := Lib.hid hg
    clear hg
    have ⟨zB, cB, dB⟩ := B1
    go_wp2_with fail
    refine (iIsOrder_any _ _ _ _ _ HM.out (hy.below bw1)).mono ?_
    rintro e w2 ⟨rfl, hb2⟩
    have bw2 : Below w.heap.size w w2 := bw1.trans (hb2.mono bw1.size)
    have A2 := A1.below hb2
    have B2 := B1.below hb2
    have R2 := R1.below hb2
    clear A1 B1 R1 cB dB zB hb2
    have ⟨zA, cA, dA⟩ := A2
    have ⟨zB, cB, dB⟩ := B2
    cases hh : ordB m ys
    · have H0 : Hid (meetOk n xs m ys = false) := by simp [Hid, meetOk, hh]
      have ⟨⟨zR, cR, dR⟩, fR, gR⟩ := R2
      clear hh
      go_wp2_with fail
      have R9 := R2.set (.int .i64 0) (.slice none 0 0)
      refine bodyPost_ret (v := .tuple #[.agg #[.int .i64 0, .slice none 0 0], .bool false]) (by have ⟨⟨_, q1, q2⟩, _, _⟩ := R9; simp [results, Try.results19, go_sem, q1, q2]) rfl ?_
      exact got_no (by simp [meetN, H0.out]) (by simp [meetL, H0.out]) H0.out ((bw2.setCell (by simp <;> omega) _).setCell (by simp <;> omega) _)
    · have hq := ord_rel hh
      have HH := Lib.hid hh
      clear hh
      by_cases hs : n = m
      · subst hs
        have H0 : Hid (meetOk n xs n ys = true) := meetOk_iff.2 ⟨HG.out, HH.out, rfl⟩
        have H1 : Hid (meetN n xs n ys = n) := by simp [Hid, meetN, H0.out]
        have H2 : Hid (meetL n xs n ys = fmap (meetE xs ys) xs.length) := by simp [Hid, meetL, H0.out]
        have h10 : xs.length ≤ 10 := by have := hp.len; have := hp.n1; omega
        obtain rfl : n = (xs.length : Int) := hp.len.symm
        have HYL : Hid (ys.length = xs.length) := by have := hq.len; simp only [Hid]; omega
        have hz1' : w.heap.size + 3 ≤ w2.heap.size := by have := R2.1.1; omega
        go_wp2_with (at_make; refine wpList_make_full _ rfl (.tmp 25) (.tmp 25) 22 rfl (w.heap.size + 3) 3 i0 (.int .i64 0) 1 Try.underlying22 hi hz0 hz1 .i64 .i64 _ _ xs.length rfl rfl rfl rfl (by rw [hz2]; omega) (by unfold maxLen; omega) hz1' ?_; intro w3 hown hgrow)
        have A3 := A2.kept hgrow (by simp)
        have B3 := B2.kept hgrow (by simp)
        have R3 := R2.kept hgrow (by simp)
        have b3 : Below w.heap.size w w3 := bw2.grown hgrow bw2.size (fun k h => by cases h)
        have hown0 := made_row (meetE xs ys) hown
        obtain ⟨g, hg⟩ : ∃ g, g = w2.heap.size := ⟨_, rfl⟩
        rw [← hg] at hown0 ⊢
        have hgz : w.heap.size + 3 ≤ g := by omega
        clear hown hgrow A2 B2 R2 hg zA cA dA zB cB dB
        go_wp2_with fail
        go_loopw [29] (fun i wr => ∃ k : Nat, k ≤ xs.length ∧ i = .int .i64 k ∧ OwnI wr (w.heap.size + 3) (.slice (some ⟨g, 0, none⟩) xs.length xs.length) (rowF (meetE xs ys) xs.length k) ∧ Below w.heap.size w wr ∧ Box2 wr w.heap.size (.int .i64 (xs.length : Int)) (.slice a xs.length cap) ∧ Box2 wr (w.heap.size + 1) (.int .i64 (xs.length : Int)) (.slice b ys.length cap2) ∧ Var2 wr (w.heap.size + 2) (.int .i64 0) (.slice none 0 0)) (fun i _ => xs.length - (intOf i).toNat)
        case atStart => exact ⟨0, Nat.zero_le _, rfl, hown0, b3, A3, B3, R3⟩
        case round =>
          clear A3 B3 R3 b3 hown0
          obtain ⟨k, hk, rfl, hown, hb, hA, hB, hR⟩ := hrel
          have ⟨zA2, cA, dA⟩ := hA
          have ⟨zB2, cB, dB⟩ := hB
          by_cases hlt : k < xs.length
          · have hky : k < ys.length := by rw [HYL.out]; exact hlt
            have hky1 : (k : Int) < (ys.length : Int) := by omega
            have k0 : (0 : Int) ≤ (k : Int) := by omega
            have k1 : (k : Int) < (xs.length : Int) := by omega
            obtain ⟨b1, off1, rfl, hbl1, hc1⟩ := (hx.below hb).cell k hlt
            obtain ⟨b2, off2, rfl, hbl2, hc2⟩ := (hy.below hb).cell k hky
            have hsh := meet_and hp hq hlt hky
            have ⟨ci, fi⟩ := hown.at' (by rw [rowF_len _ hk]) (i := k) (by rw [rowF_len _ hk]; exact hlt)
            have hput := hown.put (by rw [rowF_len _ hk]) k (bits .and .i64 (nth xs k) (nth ys k))
            rw [hsh, rowF_set _ hlt] at hput
            have HSH := Lib.hid hsh
            have HP := Lib.hid hput
            clear hsh hput
            go_wp2_with fail
            go_region
            all_goals
              go_wp2_with fail
              go_roundw
              case rel =>
                rw [HSH.out]
                exact ⟨k + 1, by omega, by go_num, by first | exact HP.out.1 | exact HP.out.1.below (Below.refl _ _).drew (Nat.le_refl _), by first | exact (hb.setCell (p := ⟨g, k, none⟩) (show w.heap.size ≤ g by omega) _).drew | exact hb.drew.setCell (p := ⟨g, k, none⟩) (show w.heap.size ≤ g by omega) _, hA.set (p := ⟨g, k, none⟩) _ (show w.heap.size ≠ g by omega), hB.set (p := ⟨g, k, none⟩) _ (show w.heap.size + 1 ≠ g by omega), hR.other (p := ⟨g, k, none⟩) _ (show w.heap.size + 2 ≠ g by omega)⟩
              case measure => simp [intOf]; omega
          · obtain rfl : k = xs.length := by omega
            rw [rowF_end] at hown
            have ⟨⟨zR, cR, dR⟩, fR, gR⟩ := hR
            go_wp2_with fail
            have R3 := hR.set (.int .i64 (xs.length : Int)) (.slice (some ⟨g, 0, none⟩) xs.length xs.length)
            refine bodyPost_ret (v := .tuple #[.agg #[.int .i64 (xs.length : Int), .slice (some ⟨g, 0, none⟩) xs.length xs.length], .bool true]) (by have ⟨⟨_, q1, q2⟩, _, _⟩ := R3; simp [results, Try.results19, go_sem, q1, q2]) rfl ?_
            refine ⟨some ⟨g, 0, none⟩, xs.length, by rw [H1.out, H2.out, H0.out, fmap_len], ?_, ?_⟩
            · rw [H2.out, fmap_len]
              exact ((hown.setBelow (p := ⟨w.heap.size + 2, 0, none⟩) (show w.heap.size + 2 < w.heap.size + 3 by omega) _).setBelow (p := ⟨w.heap.size + 2, 1, none⟩) (show w.heap.size + 2 < w.heap.size + 3 by omega) _).mono (by omega)
            · exact (hb.setCell (p := ⟨w.heap.size + 2, 0, none⟩) (show w.heap.size ≤ w.heap.size + 2 by omega) _).setCell (p := ⟨w.heap.size + 2, 1, none⟩) (show w.heap.size ≤ w.heap.size + 2 by omega) _
      · have H0 : Hid (meetOk n xs m ys = false) := by simp [Hid, meetOk, hs]
        have hsn : (n != m) = true := by simp [hs]
        have ⟨⟨zR, cR, dR⟩, fR, gR⟩ := R2
        clear hs
        go_wp2_with fail
        have R9 := R2.set (.int .i64 0) (.slice none 0 0)
        refine bodyPost_ret (v := .tuple #[.agg #[.int .i64 0, .slice none 0 0], .bool false]) (by have ⟨⟨_, q1, q2⟩, _, _⟩ := R9; simp [results, Try.results19, go_sem, q1, q2]) rfl ?_
        exact got_no (by simp [meetN, H0.out]) (by simp [meetL, H0.out]) H0.out ((bw2.setCell (by simp <;> omega) _).setCell (by simp <;> omega) _)

theorem sliceEqual_any (a b : Option Addr) (xs ys : List Int) (ca cb : Nat) (w : World) (hx : Rd w a xs) (hy : Rd w b ys) :
    Calls Try.prog 53 #[.slice a xs.length ca, .slice b ys.length cb] w fun e w' => e = .returned (.bool (eqL xs ys)) ∧ Below w.heap.size w w' := by
  have hlx := hx.len
  have hly := hy.len
  by_cases hl : xs.length = ys.length
  · have hl' : ((xs.length : Int) != (ys.length : Int)) = false := by simp [hl]
    go_enter Try.func53, Try.ntmps53
    have HL := Lib.hid hl
    clear hl
    go_wp2_with fail
    go_loopw [13] (fun i wr => ∃ k : Nat, k ≤ xs.length ∧ i = .int .i64 k ∧ xs.take k = ys.take k ∧ Below w.heap.size w wr) (fun i _ => xs.length - (intOf i).toNat)
    case atStart => exact ⟨0, Nat.zero_le _, rfl, rfl, Below.refl _ _⟩
    case round =>
      obtain ⟨k, hk, rfl, htk, hb⟩ := hrel
      have HT := Lib.hid htk
      clear htk
      by_cases hlt : k < xs.length
      · have hlt' : k < ys.length := by rw [← HL.out]; exact hlt
        obtain ⟨b1, o1, rfl, hb1, hc1⟩ := (hx.below hb).cell k hlt
        obtain ⟨b2, o2, rfl, hb2, hc2⟩ := (hy.below hb).cell k hlt'
        by_cases he : nth xs k = nth ys k
        · have he' : (nth xs k != nth ys k) = false := by simp [he]
          have HE := Lib.hid he
          clear he
          go_wp2_with fail
          go_quiet (fail)
          go_wp2_with fail
          go_roundw
          case rel =>
            refine ⟨k + 1, by omega, by go_num, ?_, by exact hb.trans (Joins.below_draws _ _ _)⟩
            rw [List.take_succ_eq_append_getElem hlt, List.take_succ_eq_append_getElem hlt', HT.out, ← nth_get, ← nth_get, HE.out]
          case measure => simp [intOf]; omega
        · have he' : (nth xs k != nth ys k) = true := by simp [he]
          have hne : eqL xs ys = false := by
            simp only [eqL, decide_eq_false_iff_not]
            intro e
            subst e
            exact he rfl
          have HN := Lib.hid hne
          clear he hne
          go_wp2_with fail
          go_quiet (fail)
          go_wp2_with fail
          go_ret
          exact ⟨ret_bool HN.out.symm, hb.trans (Joins.below_draws _ _ _)⟩
      · go_wp2_with fail
        go_ret
        refine ⟨ret_bool ?_, hb⟩
        have h1 := HT.out
        rw [List.take_of_length_le (by omega), List.take_of_length_le (by rw [← HL.out]; omega)] at h1
        simp [eqL, h1]
  · have hl' : ((xs.length : Int) != (ys.length : Int)) = true := by simp; omega
    have hne : eqL xs ys = false := by
      simp only [eqL, decide_eq_false_iff_not]
      intro e
      exact hl (by rw [e])
    have HN := Lib.hid hne
    clear hl hne
    go_enter Try.func53, Try.ntmps53
    go_wp2_with fail
    go_ret
    exact ⟨ret_bool HN.out.symm, Below.refl _ _⟩

set_option maxRecDepth 100000 in
theorem iRefine_any (n : Int) (a : Option Addr) (xs : List Int) (cap : Nat) (m : Int) (b : Option Addr) (ys : List Int) (cap2 : Nat) (w : World) (hn : -9223372036854775808 ≤ n ∧ n ≤ 9223372036854775807) (hx : Rd w a xs) (hm : -9223372036854775808 ≤ m ∧ m ≤ 9223372036854775807) (hy : Rd w b ys) :
    Calls Try.prog 16 #[.agg #[.int .i64 n, .slice a xs.length cap], .agg #[.int .i64 m, .slice b ys.length cap2]] w fun e w' => e = .returned (.tuple #[.bool (refB n xs m ys), .bool (meetOk n xs m ys)]) ∧ Below w.heap.size w w' := by
  have hx1 := (hx.alloc (.cells #[.int .i64 n, .slice a xs.length cap] 28)).alloc (.cells #[.int .i64 m, .slice b ys.length cap2] 28)
  have hy1 := (hy.alloc (.cells #[.int .i64 n, .slice a xs.length cap] 28)).alloc (.cells #[.int .i64 m, .slice b ys.length cap2] 28)
  have HN := Lib.hid hn
  have HM := Lib.hid hm
  clear hn hm
  go_enter Try.func16, Try.ntmps16
  go_wp2_with fail
  refine (iMeet_any _ _ _ _ _ _ _ _ _ HN.out hx1 HM.out hy1).mono ?_
  rintro e w1 ⟨a1, c1, rfl, ho1, hb1⟩
  obtain ⟨A1, B1, bw1⟩ := boxes2 hb1
  have ⟨zA, cA, dA⟩ := A1
  have ⟨zB, cB, dB⟩ := B1
  have hr1 := ho1.rd
  clear hb1 hx1 hy1 ho1
  cases hk : meetOk n xs m ys
  · have H1 : Hid (refB n xs m ys = false) := by simp [Hid, refB, hk]
    have H0 := Lib.hid hk
    clear hk
    go_wp2_with fail
    go_ret2
    exact ⟨ret_2b H1.out.symm H0.out.symm, bw1.alloc bw1.size _⟩
  · have H1 : Hid (refB n xs m ys = eqL (meetL n xs m ys) ys) := by simp [Hid, refB, hk]
    have H0 := Lib.hid hk
    clear hk
    go_wp2_with fail
    refine (sliceEqual_any _ _ _ _ _ _ _ (hr1.alloc _) (hy.below (bw1.alloc bw1.size _))).mono ?_
    rintro e w2 ⟨rfl, hb2⟩
    go_wp2_with fail
    go_ret2
    exact ⟨ret_2b H1.out.symm H0.out.symm, (bw1.alloc bw1.size _).trans (hb2.mono (bw1.alloc bw1.size _).size)⟩

theorem walk (n0 : Int) (a0 : Option Addr) (xs0 : List Int) (cap0 : Nat) (n1 : Int) (a1 : Option Addr) (xs1 : List Int) (cap1 : Nat) (w : World) (hn0 : -9223372036854775808 ≤ n0 ∧ n0 ≤ 9223372036854775807) (hx0 : Rd w a0 xs0) (hn1 : -9223372036854775808 ≤ n1 ∧ n1 ≤ 9223372036854775807) (hx1 : Rd w a1 xs1) :
    Calls Try.prog 3 #[.agg #[.int .i64 n0, .slice a0 xs0.length cap0], .agg #[.int .i64 n1, .slice a1 xs1.length cap1]] w fun e w' => e = .returned (.bool true) ∧ Below w.heap.size w w' := by
  by_cases hs0 : 1048576 < (xs0.length : Int)
  · go_enter Try.func3, Try.ntmps3
    go_wp2_with fail
    refine (szOrder_no (by omega) (by omega) (by omega) hx0.len).mono ?_
    rintro e w1 ⟨rfl, hb1⟩
    have bw1 : Below w.heap.size w w1 := Below.trans (by repeat (first | exact Below.refl _ _ | assumption | refine Below.alloc ?_ (by first | exact Nat.le_refl _ | (simp only [World.size_alloc, World.size_setCell, World.size_drew]; omega) | omega) _ | refine Below.setCell ?_ (by first | exact Nat.le_refl _ | (simp only [World.size_alloc, World.size_setCell, World.size_drew]; omega) | omega) _ | refine Below.drew ?_)) (hb1.mono (by first | (simp only [World.size_alloc, World.size_setCell, World.size_drew]; omega) | omega))
    have A0_1 : Box2 w1 w.heap.size (.int .i64 n0) (.slice a0 xs0.length cap0) := ⟨by have := hb1.size; simp at this; omega, (hb1.cell (p := ⟨w.heap.size, 0, none⟩) (by simp <;> omega)).trans (by simp), (hb1.cell (p := ⟨w.heap.size, 1, none⟩) (by simp <;> omega)).trans (by simp)⟩
    have ⟨zA0_1, cA0_1, dA0_1⟩ := A0_1
    have A1_1 : Box2 w1 (w.heap.size + 1) (.int .i64 n1) (.slice a1 xs1.length cap1) := ⟨by have := hb1.size; simp at this; omega, (hb1.cell (p := ⟨(w.heap.size + 1), 0, none⟩) (by simp <;> omega)).trans (by simp), (hb1.cell (p := ⟨(w.heap.size + 1), 1, none⟩) (by simp <;> omega)).trans (by simp)⟩
    have ⟨zA1_1, cA1_1, dA1_1⟩ := A1_1
    go_wp2_with fail
    go_ret
    exact ⟨rfl, bw1⟩
  by_cases hs1 : 1048576 < (xs0.length : Int) + (xs1.length : Int)
  · go_enter Try.func3, Try.ntmps3
    go_wp2_with fail
    refine (szOrder_ok (by omega) (by omega)).mono ?_
    rintro e w1 ⟨rfl, hb1⟩
    have bw1 : Below w.heap.size w w1 := Below.trans (by repeat (first | exact Below.refl _ _ | assumption | refine Below.alloc ?_ (by first | exact Nat.le_refl _ | (simp only [World.size_alloc, World.size_setCell, World.size_drew]; omega) | omega) _ | refine Below.setCell ?_ (by first | exact Nat.le_refl _ | (simp only [World.size_alloc, World.size_setCell, World.size_drew]; omega) | omega) _ | refine Below.drew ?_)) (hb1.mono (by first | (simp only [World.size_alloc, World.size_setCell, World.size_drew]; omega) | omega))
    have A0_1 : Box2 w1 w.heap.size (.int .i64 n0) (.slice a0 xs0.length cap0) := ⟨by have := hb1.size; simp at this; omega, (hb1.cell (p := ⟨w.heap.size, 0, none⟩) (by simp <;> omega)).trans (by simp), (hb1.cell (p := ⟨w.heap.size, 1, none⟩) (by simp <;> omega)).trans (by simp)⟩
    have ⟨zA0_1, cA0_1, dA0_1⟩ := A0_1
    have A1_1 : Box2 w1 (w.heap.size + 1) (.int .i64 n1) (.slice a1 xs1.length cap1) := ⟨by have := hb1.size; simp at this; omega, (hb1.cell (p := ⟨(w.heap.size + 1), 0, none⟩) (by simp <;> omega)).trans (by simp), (hb1.cell (p := ⟨(w.heap.size + 1), 1, none⟩) (by simp <;> omega)).trans (by simp)⟩
    have ⟨zA1_1, cA1_1, dA1_1⟩ := A1_1
    go_wp2_with fail
    refine (szOrder_no (by omega) (by omega) (by omega) hx1.len).mono ?_
    rintro e w2 ⟨rfl, hb2⟩
    have bw2 : Below w.heap.size w w2 := bw1.trans (hb2.mono bw1.size)
    have A0_2 := A0_1.below hb2
    have ⟨zA0_2, cA0_2, dA0_2⟩ := A0_2
    have A1_2 := A1_1.below hb2
    have ⟨zA1_2, cA1_2, dA1_2⟩ := A1_2
    go_wp2_with fail
    go_ret
    exact ⟨rfl, bw2⟩
  go_enter Try.func3, Try.ntmps3
  go_wp2_with fail
  refine (szOrder_ok (by omega) (by omega)).mono ?_
  rintro e w1 ⟨rfl, hb⟩
  have bw1 : Below w.heap.size w w1 := Below.trans (by repeat (first | exact Below.refl _ _ | assumption | refine Below.alloc ?_ (by first | exact Nat.le_refl _ | (simp only [World.size_alloc, World.size_setCell, World.size_drew]; omega) | omega) _ | refine Below.setCell ?_ (by first | exact Nat.le_refl _ | (simp only [World.size_alloc, World.size_setCell, World.size_drew]; omega) | omega) _ | refine Below.drew ?_)) (hb.mono (by first | (simp only [World.size_alloc, World.size_setCell, World.size_drew]; omega) | omega))
  have z1 : w.heap.size ≤ w1.heap.size := bw1.size
  have A0_1 : Box2 w1 w.heap.size (.int .i64 n0) (.slice a0 xs0.length cap0) := ⟨by have := hb.size; simp at this; omega, (hb.cell (p := ⟨w.heap.size, 0, none⟩) (by simp <;> omega)).trans (by simp), (hb.cell (p := ⟨w.heap.size, 1, none⟩) (by simp <;> omega)).trans (by simp)⟩
  have ⟨zA0_1, cA0_1, dA0_1⟩ := A0_1
  have A1_1 : Box2 w1 (w.heap.size + 1) (.int .i64 n1) (.slice a1 xs1.length cap1) := ⟨by have := hb.size; simp at this; omega, (hb.cell (p := ⟨(w.heap.size + 1), 0, none⟩) (by simp <;> omega)).trans (by simp), (hb.cell (p := ⟨(w.heap.size + 1), 1, none⟩) (by simp <;> omega)).trans (by simp)⟩
  have ⟨zA1_1, cA1_1, dA1_1⟩ := A1_1
  clear hb
  go_wp2_with fail
  refine (szOrder_ok (by omega) (by omega)).mono ?_
  rintro e w2 ⟨rfl, hb⟩
  have ht : Below w1.heap.size w1 w2 := hb
  have z2 : w1.heap.size ≤ w2.heap.size := ht.size
  have bw2 : Below w.heap.size w w2 := bw1.trans (ht.mono bw1.size)
  have A0_2 := A0_1.below ht
  have A1_2 := A1_1.below ht
  have ⟨zA0_2, cA0_2, dA0_2⟩ := A0_2
  have ⟨zA1_2, cA1_2, dA1_2⟩ := A1_2
  clear A0_1 cA0_1 dA0_1 A1_1 cA1_1 dA1_1
  clear ht hb
  go_wp2_with fail
  go_region_held3 (fun w' => w'.cell? ⟨w.heap.size, 0, none⟩ = some (.int .i64 n0) ∧ w'.cell? ⟨w.heap.size, 1, none⟩ = some (.slice a0 xs0.length cap0) ∧ w'.cell? ⟨(w.heap.size + 1), 0, none⟩ = some (.int .i64 n1) ∧ w'.cell? ⟨(w.heap.size + 1), 1, none⟩ = some (.slice a1 xs1.length cap1))
    (first | exact ⟨QA0_5.2.1, QA0_5.2.2, QA1_5.2.1, QA1_5.2.2⟩ | exact ⟨QA0_4.2.1, QA0_4.2.2, QA1_4.2.1, QA1_4.2.2⟩ | exact ⟨QA0_3.2.1, QA0_3.2.2, QA1_3.2.1, QA1_3.2.2⟩ | go_keep)
    (first | (go_at_call 14; refine (sRefine_any _ _ _ _ _ _ _ _ _ hn0 (oT0.rd.below hb4) hn1 (oT1.rd)).mono ?_; rintro e w5 ⟨rfl, hb5⟩; have ht5 : Below w2.heap.size w2 w5 := ht4.trans (hb5.mono ht4.size); have bw5 : Below w.heap.size w w5 := bw2.trans (ht5.mono bw2.size); have QA0_5 := A0_2.below ht5; have QA1_5 := A1_2.below ht5) | (have _g := ht3; go_at_call 15; refine (toOrder_any _ _ _ _ _ (hx1.below bw3) (by omega)).mono ?_; rintro e w4 ⟨pT1, qT1, rfl, oT1, hb4⟩; have ht4 : Below w2.heap.size w2 w4 := ht3.trans (hb4.mono ht3.size); have bw4 : Below w.heap.size w w4 := bw2.trans (ht4.mono bw2.size); have QA0_4 := A0_2.below ht4; have QA1_4 := A1_2.below ht4) | (go_at_call 15; refine (toOrder_any _ _ _ _ _ (hx0.below (bw2.trans (Joins.below_draws _ _ _))) (by omega)).mono ?_; rintro e w3 ⟨pT0, qT0, rfl, oT0, hb3⟩; have ht3 : Below w2.heap.size w2 w3 := (Joins.below_draws _ _ _).trans hb3; have bw3 : Below w.heap.size w w3 := bw2.trans (ht3.mono bw2.size); have QA0_3 := A0_2.below ht3; have QA1_3 := A1_2.below ht3))
  have ht : Below w2.heap.size w2 w5 := ht5
  have z5 : w2.heap.size ≤ w5.heap.size := ht.size
  clear QA0_3 QA0_4 QA0_5 QA1_3 QA1_4 QA1_5 oT0 oT1
  have A0_5 := A0_2.below ht
  have A1_5 := A1_2.below ht
  have ⟨zA0_5, cA0_5, dA0_5⟩ := A0_5
  have ⟨zA1_5, cA1_5, dA1_5⟩ := A1_5
  clear A0_2 cA0_2 dA0_2 A1_2 cA1_2 dA1_2
  clear ht ht3 hb3 ht4 hb4 ht5 hb5
  go_wp2_with fail
  refine (toOrder_any _ _ _ _ _ (hx0.below bw5) (by omega)).mono ?_
  rintro e w6 ⟨pX0, qX0, rfl, ho, hb⟩
  have ht : Below w5.heap.size w5 w6 := hb
  have z6 : w5.heap.size ≤ w6.heap.size := ht.size
  have bw6 : Below w.heap.size w w6 := bw5.trans (ht.mono bw5.size)
  have A0_6 := A0_5.below ht
  have A1_6 := A1_5.below ht
  have ⟨zA0_6, cA0_6, dA0_6⟩ := A0_6
  have ⟨zA1_6, cA1_6, dA1_6⟩ := A1_6
  clear A0_5 cA0_5 dA0_5 A1_5 cA1_5 dA1_5
  have X0_6 := ho
  have UX0 := X0_6.cut (Nat.le_refl _)
  clear ho
  clear ht hb
  go_wp2_with fail
  refine (toOrder_any _ _ _ _ _ (hx1.below (bw6.alloc bw6.size _)) (by omega)).mono ?_
  rintro e w7 ⟨pX1, qX1, rfl, ho, hb⟩
  have ht : Below w6.heap.size w6 w7 := Below.trans (by repeat (first | exact Below.refl _ _ | assumption | refine Below.alloc ?_ (by first | exact Nat.le_refl _ | (simp only [World.size_alloc, World.size_setCell, World.size_drew]; omega) | omega) _ | refine Below.setCell ?_ (by first | exact Nat.le_refl _ | (simp only [World.size_alloc, World.size_setCell, World.size_drew]; omega) | omega) _ | refine Below.drew ?_)) (hb.mono (by first | (simp only [World.size_alloc, World.size_setCell, World.size_drew]; omega) | omega))
  have z7 : w6.heap.size ≤ w7.heap.size := ht.size
  have bw7 : Below w.heap.size w w7 := bw6.trans (ht.mono bw6.size)
  have A0_7 := A0_6.below ht
  have A1_7 := A1_6.below ht
  have BX0_7 : Box2 w7 w6.heap.size (.int .i64 n0) (.slice pX0 xs0.length qX0) := (Box2.new w6 _ _ 28).below hb
  have ⟨zA0_7, cA0_7, dA0_7⟩ := A0_7
  have ⟨zA1_7, cA1_7, dA1_7⟩ := A1_7
  have ⟨zBX0_7, cBX0_7, dBX0_7⟩ := BX0_7
  have X0_7 := X0_6.below ht (Nat.le_refl _)
  clear A0_6 cA0_6 dA0_6 A1_6 cA1_6 dA1_6 X0_6
  have X1_7 := ho
  have UX1 := X1_7.cut (Nat.le_refl _); simp only [World.size_alloc] at UX1
  clear ho
  clear ht hb
  go_wp2_with fail
  refine (iRefine_any _ _ _ _ _ _ _ _ _ hn0 (X0_7.rd.below (by repeat (first | exact Below.refl _ _ | assumption | refine Below.alloc ?_ (by first | exact Nat.le_refl _ | (simp only [World.size_alloc, World.size_setCell, World.size_drew]; omega) | omega) _ | refine Below.setCell ?_ (by first | exact Nat.le_refl _ | (simp only [World.size_alloc, World.size_setCell, World.size_drew]; omega) | omega) _ | refine Below.drew ?_))) hn1 (X1_7.rd.below (by repeat (first | exact Below.refl _ _ | assumption | refine Below.alloc ?_ (by first | exact Nat.le_refl _ | (simp only [World.size_alloc, World.size_setCell, World.size_drew]; omega) | omega) _ | refine Below.setCell ?_ (by first | exact Nat.le_refl _ | (simp only [World.size_alloc, World.size_setCell, World.size_drew]; omega) | omega) _ | refine Below.drew ?_)))).mono ?_
  rintro e w8 ⟨rfl, hb⟩
  have ht : Below w7.heap.size w7 w8 := Below.trans (by repeat (first | exact Below.refl _ _ | assumption | refine Below.alloc ?_ (by first | exact Nat.le_refl _ | (simp only [World.size_alloc, World.size_setCell, World.size_drew]; omega) | omega) _ | refine Below.setCell ?_ (by first | exact Nat.le_refl _ | (simp only [World.size_alloc, World.size_setCell, World.size_drew]; omega) | omega) _ | refine Below.drew ?_)) (hb.mono (by first | (simp only [World.size_alloc, World.size_setCell, World.size_drew]; omega) | omega))
  have z8 : w7.heap.size ≤ w8.heap.size := ht.size
  have bw8 : Below w.heap.size w w8 := bw7.trans (ht.mono bw7.size)
  have A0_8 := A0_7.below ht
  have A1_8 := A1_7.below ht
  have BX0_8 := BX0_7.below ht
  have BX1_8 : Box2 w8 w7.heap.size (.int .i64 n1) (.slice pX1 xs1.length qX1) := (Box2.new w7 _ _ 28).below hb
  have ⟨zA0_8, cA0_8, dA0_8⟩ := A0_8
  have ⟨zA1_8, cA1_8, dA1_8⟩ := A1_8
  have ⟨zBX0_8, cBX0_8, dBX0_8⟩ := BX0_8
  have ⟨zBX1_8, cBX1_8, dBX1_8⟩ := BX1_8
  have X0_8 := X0_7.below ht (Nat.le_refl _)
  have X1_8 := X1_7.below ht (Nat.le_refl _)
  clear A0_7 cA0_7 dA0_7 A1_7 cA1_7 dA1_7 BX0_7 cBX0_7 dBX0_7 X0_7 X1_7
  clear ht hb
  go_wp2_with fail
  go_region_held3 (fun w' => w'.cell? ⟨w.heap.size, 0, none⟩ = some (.int .i64 n0) ∧ w'.cell? ⟨w.heap.size, 1, none⟩ = some (.slice a0 xs0.length cap0) ∧ w'.cell? ⟨w6.heap.size, 0, none⟩ = some (.int .i64 n0) ∧ w'.cell? ⟨w6.heap.size, 1, none⟩ = some (.slice pX0 xs0.length qX0))
    (first | exact ⟨P10.2.1, P10.2.2, Q10.2.1, Q10.2.2⟩ | exact ⟨P9.2.1, P9.2.2, Q9.2.1, Q9.2.2⟩ | go_keep)
    (first | (go_at_call 15; refine (toOrder_any _ _ _ _ _ (hx0.below (bw8.trans (Joins.below_draws _ _ _))) (by omega)).mono ?_; rintro e w9 ⟨a9', cap9', rfl, ho9, hb9⟩; have ht9 : Below w8.heap.size w8 w9 := (Joins.below_draws _ _ _).trans hb9; have P9 := A0_8.below ht9; have Q9 := BX0_8.below ht9) | (go_at_call 17; refine (eqOrder_any _ _ _ _ xs0 xs0 _ _ _ (X0_8.rd.below ht9) ho9.rd).mono ?_; rw [eqO_refl]; rintro e w10 ⟨rfl, hb10⟩; have P10 := P9.below hb10; have Q10 := Q9.below hb10))
  have ht : Below w8.heap.size w8 w10 := ht9.trans (hb10.mono ht9.size)
  have z10 : w8.heap.size ≤ w10.heap.size := ht.size
  have bw10 : Below w.heap.size w w10 := bw8.trans (ht.mono bw8.size)
  clear P9 Q9 P10 Q10 ho9
  have A0_10 := A0_8.below ht
  have A1_10 := A1_8.below ht
  have BX0_10 := BX0_8.below ht
  have BX1_10 := BX1_8.below ht
  have ⟨zA0_10, cA0_10, dA0_10⟩ := A0_10
  have ⟨zA1_10, cA1_10, dA1_10⟩ := A1_10
  have ⟨zBX0_10, cBX0_10, dBX0_10⟩ := BX0_10
  have ⟨zBX1_10, cBX1_10, dBX1_10⟩ := BX1_10
  have X0_10 := X0_8.below ht (Nat.le_refl _)
  have X1_10 := X1_8.below ht (Nat.le_refl _)
  clear A0_8 cA0_8 dA0_8 A1_8 cA1_8 dA1_8 BX0_8 cBX0_8 dBX0_8 BX1_8 cBX1_8 dBX1_8 X0_8 X1_8
  clear ht hb10 ht9 hb9
  go_wp2_with fail
  go_region_held3 (fun w' => w'.cell? ⟨(w.heap.size + 1), 0, none⟩ = some (.int .i64 n1) ∧ w'.cell? ⟨(w.heap.size + 1), 1, none⟩ = some (.slice a1 xs1.length cap1) ∧ w'.cell? ⟨w7.heap.size, 0, none⟩ = some (.int .i64 n1) ∧ w'.cell? ⟨w7.heap.size, 1, none⟩ = some (.slice pX1 xs1.length qX1))
    (first | exact ⟨P12.2.1, P12.2.2, Q12.2.1, Q12.2.2⟩ | exact ⟨P11.2.1, P11.2.2, Q11.2.1, Q11.2.2⟩ | go_keep)
    (first | (go_at_call 15; refine (toOrder_any _ _ _ _ _ (hx1.below (bw10.trans (Joins.below_draws _ _ _))) (by omega)).mono ?_; rintro e w11 ⟨a11', cap11', rfl, ho11, hb11⟩; have ht11 : Below w10.heap.size w10 w11 := (Joins.below_draws _ _ _).trans hb11; have P11 := A1_10.below ht11; have Q11 := BX1_10.below ht11) | (go_at_call 17; refine (eqOrder_any _ _ _ _ xs1 xs1 _ _ _ (X1_10.rd.below ht11) ho11.rd).mono ?_; rw [eqO_refl]; rintro e w12 ⟨rfl, hb12⟩; have P12 := P11.below hb12; have Q12 := Q11.below hb12))
  have ht : Below w10.heap.size w10 w12 := ht11.trans (hb12.mono ht11.size)
  have z12 : w10.heap.size ≤ w12.heap.size := ht.size
  have bw12 : Below w.heap.size w w12 := bw10.trans (ht.mono bw10.size)
  clear P11 Q11 P12 Q12 ho11
  have A0_12 := A0_10.below ht
  have A1_12 := A1_10.below ht
  have BX0_12 := BX0_10.below ht
  have BX1_12 := BX1_10.below ht
  have ⟨zA0_12, cA0_12, dA0_12⟩ := A0_12
  have ⟨zA1_12, cA1_12, dA1_12⟩ := A1_12
  have ⟨zBX0_12, cBX0_12, dBX0_12⟩ := BX0_12
  have ⟨zBX1_12, cBX1_12, dBX1_12⟩ := BX1_12
  have X0_12 := X0_10.below ht (Nat.le_refl _)
  have X1_12 := X1_10.below ht (Nat.le_refl _)
  clear A0_10 cA0_10 dA0_10 A1_10 cA1_10 dA1_10 BX0_10 cBX0_10 dBX0_10 BX1_10 cBX1_10 dBX1_10 X0_10 X1_10
  clear ht hb12 ht11 hb11
  go_wp2_with fail
  go_ret
  exact ⟨rfl, bw12⟩

theorem rd_of_trod {H : Type} {enc : TypeId × Value → H} {W : World} {fuel : Nat} {c : Value} {y : DataW H × List MemPlace}
    (h : DataW.trod enc Try.prog W 0 (fun _ => true) true fuel 22 [c] = some y) : ∃ (a : Option Addr) (xs : List Int) (cap : Nat), c = .slice a xs.length cap ∧ Rd W a xs ∧ ∀ k, k < xs.length → (Lit.int .i64 (nth xs k)).wf = true := by
  rcases Go.ChangeShapes.open_ints Try.underlying22 Try.underlying3 (by kernel_rfl) h with ⟨hcs, _⟩ | ⟨x, len, cap, zs, hcs, _, hl, hm, hz, _, hcell, hwf⟩
  · simp only [List.cons.injEq, and_true] at hcs
    exact ⟨none, [], 0, hcs, ⟨by simp, fun k hk => by simp at hk⟩, fun k hk => by simp at hk⟩
  · simp only [List.cons.injEq, and_true] at hcs
    simp only [if_true] at hz
    have hlen : (zs.take len).length = len := by rw [List.length_take]; omega
    have hn : ∀ k, k < len → nth (zs.take len) k = zs.getD k 0 := by
      intro k hk
      simp only [nth, List.getD_eq_getElem?_getD, List.getElem?_take, hk, if_true]
    refine ⟨some x, zs.take len, cap, by rw [hlen]; exact hcs, ⟨by rw [hlen]; unfold maxLen at hm; omega, fun k hk => ?_⟩, fun k hk => ?_⟩
    · rw [hlen] at hk
      obtain ⟨b, off, sp⟩ := x
      have h0 := hcell 0 (by omega)
      have hsp : sp = none := by simpa [Addr.add] using World.cell?_spot h0
      subst hsp
      have hk' := hcell k (by omega)
      rw [Addr.add_lit] at hk'
      exact ⟨b, off, rfl, World.block_lt_of_cell? _ _ h0, by rw [hk', hn k hk]⟩
    · rw [hlen] at hk
      rw [hn k hk]
      have hk2 : k < zs.length := by omega
      exact hwf _ (by rw [List.getD_eq_getElem?_getD, List.getElem?_eq_getElem hk2]; exact List.getElem_mem hk2)

theorem own : ownKnob Try.prog.godebug = none := by kernel_rfl
theorem laidOut : laidOutB Try.prog = true := by kernel_rfl
theorem wf_bd {n : Int} (h : (Lit.int .i64 n).wf = true) : -9223372036854775808 ≤ n ∧ n ≤ 9223372036854775807 := by
  simp [Lit.wf, IntKind.min, IntKind.max, IntKind.bits, IntKind.signed] at h
  omega

theorem cellsO : Try.prog.cellsOf 24 = 2 := by kernel_rfl

open Go.ChangeShapes Go.WideShapes Go.ChangeAt Go.RowKit in
set_option maxRecDepth 100000 in
theorem lifted (os : Os) (started : os.Started) (H : Type) (enc : TypeId × Value → H) :
    ReturnsInHanded {} Try.checked os 3 .any (Rows.fnExactDoesRefineSpec.pre6 enc Try.prog Try.f3 Rows.fnExactDoesRefineRow.domain false) (Rows.fnExactDoesRefineSpec.post enc Try.prog Try.f3 false true false false) := by
  refine returnsInHanded_of_change (C := Try.checked) own started (by kernel_rfl) Try.func3
    (ChangeSpec.witness6 (enc := enc) (C := Try.checked) false ⟨#[], #[.agg #[.int .i64 0, .slice none 0 0], .agg #[.int .i64 0, .slice none 0 0]], []⟩ 8 (by kernel_rfl) (by kernel_rfl) (by kernel_rfl) (by kernel_rfl)) ?_
  intro W base args ds gs before hval0 hW hcnd _
  have hval : ∀ (j : Nat) t v, Try.f3.params[j]? = some t → args[j]? = some v → Value.okWide Try.prog W .any base t v := hval0
  have hW' := hW
  obtain ⟨p, q, hA0, hV, rfl, hfz, hnd⟩ := hW
  have hA : DataW.TrodAll enc Try.prog W 0 (fun _ => true) true Try.f3.params.toList args.toList ds p := hA0
  rw [Try.params3] at hA hval
  obtain ⟨v0, vs0, d0, ds0, p0, q0, hargs, rfl, rfl, h0, r0⟩ := trodAll_cons hA
  obtain ⟨v1, vs1, d1, ds1, p1, q1, rfl, rfl, rfl, h1, r1⟩ := trodAll_cons r0
  obtain ⟨rfl, rfl, rfl⟩ := trodAll_nil r1
  obtain rfl : args = #[v0, v1] := by cases args; simp_all
  obtain ⟨rfl, rfl⟩ := trodVars_none hV
  have lt0 : ∀ x ∈ p0, x.block < W.heap.size := by obtain ⟨m, hm⟩ := h0; exact DataW.trod_lt m _ _ _ hm
  have lt1 : ∀ x ∈ p1, x.block < W.heap.size := by obtain ⟨m, hm⟩ := h1; exact DataW.trod_lt m _ _ _ hm
  obtain ⟨c00, c01, y00, y01, m0, rfl, hd0, hp0, hy00, hy01⟩ := Go.Joins.open_agg2 Try.underlying24 (by kernel_rfl) cellsO (hval 0 24 v0 rfl rfl) h0
  obtain ⟨n0, e00, _, wf0⟩ := DataW.trod_int Try.underlying3 hy00
  simp only [List.cons.injEq, and_true] at e00
  subst e00
  obtain ⟨a0, xs0, cap0, rfl, rd0, wl0⟩ := rd_of_trod hy01
  obtain ⟨c10, c11, y10, y11, m1, rfl, hd1, hp1, hy10, hy11⟩ := Go.Joins.open_agg2 Try.underlying24 (by kernel_rfl) cellsO (hval 1 24 v1 rfl rfl) h1
  obtain ⟨n1, e10, _, wf1⟩ := DataW.trod_int Try.underlying3 hy10
  simp only [List.cons.injEq, and_true] at e10
  subst e10
  obtain ⟨a1, xs1, cap1, rfl, rd1, wl1⟩ := rd_of_trod hy11
  clear hA0 hval0
  refine (walk n0 a0 xs0 cap0 n1 a1 xs1 cap1 W (wf_bd wf0) rd0 (wf_bd wf1) rd1).mono fun e W' ⟨he, bel⟩ => ?_
  subst he
  exact ⟨_, rfl, _, _, _, [], _, [], hW', trodAll_mk1 (shut_bool Try.underlying4 _), (trodAll_cons_mk (Below.trod laidOut (by kernel_rfl) (of_decide_eq_true (by kernel_rfl)) h0 bel lt0) (trodAll_cons_mk (Below.trod laidOut (by kernel_rfl) (of_decide_eq_true (by kernel_rfl)) h1 bel lt1) trodAll_mk0)), rfl, bel.frame _, fun h => by cases h⟩
theorem proved : Rows.FnExactDoesRefineSaid :=
  OpenClaim.holds_of_wide 3 Try.f3 rfl rfl rfl rfl rfl rfl rfl ⟨rfl, rfl, rfl, rfl, rfl⟩ rfl rfl rfl rfl rfl (by kernel_rfl) Try.func3 (by kernel_rfl)
    (of_decide_eq_true (by kernel_rfl)) (by unfold Func.isWrapper; first | (rw [if_pos (by decide +kernel)]; kernel_rfl) | (rw [if_neg (by decide +kernel)]; exact ⟨rfl, rfl⟩))
    (fun os started H enc _ => lifted os started H enc)

end Go.Proofs.Ytpenikceoogmgaa.doesRefine
