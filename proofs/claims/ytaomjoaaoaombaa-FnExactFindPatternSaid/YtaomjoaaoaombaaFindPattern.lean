/- PROVED: the law FnExactFindPattern returns true for every input, and each of its arguments reads afterwards as before. No conditions. -/
import Derived.Test.YtaomjoaaoaombaaRows
import Derived.WalkKit
import Derived.WalkSpells
import Derived.WalkLawsBesides
import Derived.Deep.QuietTactic
import Derived.BigQuiet
import Derived.ProofKit
import Derived.OpenShut
import Derived.ShutString
import Derived.ChangeOld
import Derived.Below
import Derived.Lib.SmallJoins
import Derived.Lib.Hide
import Derived.Maps.AppendAt
import Derived.Deep.AppendLies
import Derived.Deep.RegionHeld3
import Derived.Deep.RegionLaw
import Derived.Laws.MakeOwn
import Derived.Laws.OwnMore
namespace Go.Proofs.Ytaomjoaaoaombaa.findPattern
open Go Go.RowKit
set_option linter.unusedVariables false
set_option linter.unusedSimpArgs false
set_option maxHeartbeats 400000


/-- a number of a list; a plain function, which the walk leaves alone -/
def nth (xs : List Int) (k : Nat) : Int := xs.getD k 0
theorem nth_get (xs : List Int) (k : Nat) (h : k < xs.length) : nth xs k = xs[k] := by simp [nth, h]
/-- the slice at an address reads as a list -/
structure Rd (w : World) (a : Option Addr) (xs : List Int) : Prop where
  len : xs.length ≤ 9223372036854775807
  cell : ∀ k, k < xs.length → ∃ b off, a = some ⟨b, off, none⟩ ∧ b < w.heap.size ∧ w.cell? ⟨b, off + k, none⟩ = some (.int .i64 (nth xs k))
theorem Rd.below {w w' : World} {a : Option Addr} {xs : List Int} (h : Rd w a xs) (hb : Below w.heap.size w w') : Rd w' a xs :=
  ⟨h.len, fun k hk => by
    obtain ⟨b, off, e, hl, hc⟩ := h.cell k hk
    exact ⟨b, off, e, Nat.lt_of_lt_of_le hl hb.size, (hb.cell (World.block_lt_of_cell? _ _ hc)).trans hc⟩⟩
theorem Rd.mid {w w1 w2 : World} {a : Option Addr} {xs : List Int} {B : Nat} (h : Rd w a xs) (hb : Below B w1 w2) (hB : w.heap.size ≤ B) (h1 : Rd w1 a xs) : Rd w2 a xs :=
  ⟨h.len, fun k hk => by
    obtain ⟨b, off, e, hl, hc⟩ := h.cell k hk
    obtain ⟨b', off', e', hl', hc'⟩ := h1.cell k hk
    rw [e] at e'
    simp only [Option.some.injEq, Addr.mk.injEq, and_true] at e'
    obtain ⟨rfl, rfl⟩ := e'
    exact ⟨b, off, e, Nat.lt_of_lt_of_le hl' hb.size, (hb.cell (by show b < B; omega)).trans hc'⟩⟩
theorem Rd.alloc {w : World} {a : Option Addr} {xs : List Int} (h : Rd w a xs) (o : Obj) : Rd (w.alloc o) a xs :=
  h.below ((Below.refl _ _).alloc (Nat.le_refl _) o)
theorem Rd.same {w w' : World} {a : Option Addr} {xs : List Int} (h : Rd w a xs) (hs : w.heap.size ≤ w'.heap.size)
    (hb : ∀ b off, a = some ⟨b, off, none⟩ → w'.heap[b]? = w.heap[b]?) : Rd w' a xs :=
  ⟨h.len, fun k hk => by
    obtain ⟨b, off, e, hl, hc⟩ := h.cell k hk
    exact ⟨b, off, e, Nat.lt_of_lt_of_le hl hs, (World.cell?_of_block (w := w) (a := ⟨b, off + k, none⟩) (hb b off e)).trans hc⟩⟩
/-- a slice value that owns the row of these integers, in a block from B on -/
def OwnI (w : World) (B : Nat) (v : Value) (xs : List Int) : Prop := w.ownsRow B 3 1 v xs.length (xs.map (Value.int .i64))
theorem OwnI.form {w : World} {B : Nat} {v : Value} {xs : List Int} (h : OwnI w B v xs) : ∃ a cap, v = .slice a xs.length cap := by
  rcases h.2 with ⟨rfl, h0⟩ | ⟨g, cap, cur, rfl, _⟩
  · exact ⟨none, 0, by rw [h0]⟩
  · exact ⟨_, _, rfl⟩
theorem OwnI.rd {w : World} {B n cap : Nat} {a : Option Addr} {xs : List Int} (h : OwnI w B (.slice a n cap) xs) : Rd w a xs := by
  rcases h.2 with ⟨e, h0⟩ | ⟨g, cap', cur, e, hb, hg, hn, hm, hs, ht⟩
  · exact ⟨by omega, fun k hk => by omega⟩
  · simp only [Value.slice.injEq] at e
    obtain ⟨rfl, rfl, rfl⟩ := e
    refine ⟨by unfold maxLen at hm; omega, fun k hk => ⟨g, 0, rfl, (Array.getElem?_eq_some_iff.1 hg).1, ?_⟩⟩
    have := World.ownsRow.cellAt h k (by omega)
    rw [Nat.zero_add, this]
    simp [nth, hk]
theorem OwnI.blk {w : World} {B n cap : Nat} {a : Option Addr} {xs : List Int} (h : OwnI w B (.slice a n cap) xs) : ∀ b off s, a = some ⟨b, off, s⟩ → B ≤ b ∧ b < w.heap.size := by
  intro b off s e
  subst e
  exact World.ownsRow.lt h b rfl
theorem OwnI.kept {w w' : World} {B : Nat} {v : Value} {xs : List Int} {row : Option Nat} (h : OwnI w B v xs) (hg : w.grownBy w' row) (hne : v.ownBlock = none ∨ v.ownBlock ≠ row) : OwnI w' B v xs := World.ownsRow.kept h hg hne
theorem OwnI.mono {w : World} {B B' : Nat} {v : Value} {xs : List Int} (h : OwnI w B v xs) (hB : B' ≤ B) : OwnI w B' v xs := by
  refine ⟨h.1, ?_⟩
  rcases h.2 with hn | ⟨g, cap, cur, e, hb, rest⟩
  · exact .inl hn
  · exact .inr ⟨g, cap, cur, e, by omega, rest⟩
theorem OwnI.below {w w' : World} {B B' : Nat} {v : Value} {xs : List Int} (h : OwnI w B v xs) (hb : Below B' w w') (hB : w.heap.size ≤ B') : OwnI w' B v xs := by
  refine ⟨h.1, ?_⟩
  rcases h.2 with hn | ⟨g, cap, cur, e, hb', hg, rest⟩
  · exact .inl hn
  · refine .inr ⟨g, cap, cur, e, hb', ?_, rest⟩
    rw [hb.block g (by have := (Array.getElem?_eq_some_iff.1 hg).1; omega)]
    exact hg
theorem ret_bool {a b : Bool} (h : a = b) : Ending.returned (.bool a) = .returned (.bool b) := by rw [h]
theorem ret_int {a b : Int} (h : a = b) : Ending.returned (.int .i64 a) = .returned (.int .i64 b) := by rw [h]
theorem val_int {a b : Int} (h : a = b) : Value.int .i64 a = .int .i64 b := by rw [h]
theorem grown_below {w w' : World} {g : Nat} (h : w.grownBy w' (some g)) (B : Nat) (hB : B ≤ g) (hs : B ≤ w.heap.size) : Below B w w' :=
  ⟨h.os, h.tape, h.output, h.size, fun k hk => h.block k (by omega) (by intro e; simp only [Option.some.injEq] at e; omega)⟩
theorem below_grown {w w' : World} {B : Nat} (h : Below B w w') (hB : w.heap.size ≤ B) (row : Option Nat) : w.grownBy w' row :=
  ⟨h.os, h.tape, h.output, h.size, fun k hk _ => h.block k (by omega)⟩
theorem bcell {W w1 : World} (hb : Below W.heap.size W w1) : (∀ b o, b < W.heap.size → w1.cell? ⟨b, o, none⟩ = W.cell? ⟨b, o, none⟩) ∧ (∀ b o, b < W.heap.size → w1.frozen? ⟨b, o, none⟩ = W.frozen? ⟨b, o, none⟩) :=
  ⟨fun b o h => hb.cell (p := ⟨b, o, none⟩) h, fun b o h => hb.frozen (p := ⟨b, o, none⟩) h⟩
theorem infoInt : (Try.prog.info? 3).map (fun i => (i.zero, i.size, i.bytes)) = some (some (.int .i64 0), 1, 8) := by kernel_rfl
theorem OwnI.setBelow {w : World} {B : Nat} {v : Value} {xs : List Int} (h : OwnI w B v xs) {p : Addr} (hp : p.block < B) (u : Value) : OwnI (w.setCell p u) B v xs := ownsRow_setCell_below h hp u
theorem OwnI.alloc {w : World} {B : Nat} {v : Value} {xs : List Int} (h : OwnI w B v xs) (o : Obj) : OwnI (w.alloc o) B v xs := h.below ((Below.refl _ _).alloc (Nat.le_refl _) o) (Nat.le_refl _)
theorem Below.mono' {B B' : Nat} {w w' : World} (h : Below B w w') (hB : B' ≤ B) : Below B' w w' := h.mono hB
/-- a block that holds two cells -/
def Box2 (w : World) (b : Nat) (u v : Value) : Prop := b < w.heap.size ∧ w.cell? ⟨b, 0, none⟩ = some u ∧ w.cell? ⟨b, 1, none⟩ = some v
theorem Box2.below {w w' : World} {b : Nat} {u v : Value} (h : Box2 w b u v) (hb : Below w.heap.size w w') : Box2 w' b u v :=
  ⟨Nat.lt_of_lt_of_le h.1 hb.size, (hb.cell (p := ⟨b, 0, none⟩) h.1).trans h.2.1, (hb.cell (p := ⟨b, 1, none⟩) h.1).trans h.2.2⟩
theorem Box2.new (w : World) (u v : Value) (t : TypeId) : Box2 (w.alloc (.cells #[u, v] t)) w.heap.size u v :=
  ⟨by simp, by simp, by simp⟩
theorem Box2.kept {w w' : World} {b : Nat} {u v : Value} {row : Option Nat} (h : Box2 w b u v) (hg : w.grownBy w' row) (hne : some b ≠ row) : Box2 w' b u v :=
  ⟨Nat.lt_of_lt_of_le h.1 hg.size, hg.cell h.2.1 hne, hg.cell h.2.2 hne⟩
theorem OwnI.lt {w : World} {B : Nat} {v : Value} {xs : List Int} (h : OwnI w B v xs) : ∀ b, v.ownBlock = some b → B ≤ b ∧ b < w.heap.size := World.ownsRow.lt h
theorem OwnI.cut {w : World} {B : Nat} {v : Value} {xs : List Int} (h : OwnI w B v xs) {U : Nat} (hU : w.heap.size ≤ U) : ∀ b, v.ownBlock = some b → B ≤ b ∧ b < U := fun b e => ⟨(h.lt b e).1, Nat.lt_of_lt_of_le (h.lt b e).2 hU⟩
/-- a block of two cells that may be written -/
def Var2 (w : World) (b : Nat) (u v : Value) : Prop := Box2 w b u v ∧ w.frozen? ⟨b, 0, none⟩ = false ∧ w.frozen? ⟨b, 1, none⟩ = false
theorem Var2.below {w w' : World} {b : Nat} {u v : Value} (h : Var2 w b u v) (hb : Below w.heap.size w w') : Var2 w' b u v :=
  ⟨h.1.below hb, (hb.frozen (p := ⟨b, 0, none⟩) h.1.1).trans h.2.1, (hb.frozen (p := ⟨b, 1, none⟩) h.1.1).trans h.2.2⟩
theorem Var2.new (w : World) (u v : Value) (t : TypeId) : Var2 (w.alloc (.cells #[u, v] t)) w.heap.size u v :=
  ⟨Box2.new w u v t, by simp, by simp⟩
theorem Var2.alloc {w : World} {b : Nat} {u v : Value} (h : Var2 w b u v) (o : Obj) : Var2 (w.alloc o) b u v := h.below ((Below.refl _ _).alloc (Nat.le_refl _) o)
theorem Var2.kept {w w' : World} {b : Nat} {u v : Value} {row : Option Nat} (h : Var2 w b u v) (hg : w.grownBy w' row) (hne : some b ≠ row) : Var2 w' b u v :=
  ⟨h.1.kept hg hne, (World.frozen?_of_block (w := w) (a := ⟨b, 0, none⟩) (hg.block b h.1.1 hne)).trans h.2.1, (World.frozen?_of_block (w := w) (a := ⟨b, 1, none⟩) (hg.block b h.1.1 hne)).trans h.2.2⟩
theorem Var2.set {w : World} {b : Nat} {u v : Value} (h : Var2 w b u v) (u' v' : Value) : Var2 ((w.setCell ⟨b, 0, none⟩ u').setCell ⟨b, 1, none⟩ v') b u' v' := by
  refine ⟨⟨by simpa using h.1.1, ?_, ?_⟩, by simpa using h.2.1, by simpa using h.2.2⟩
  · rw [World.cell?_setCell_other _ _ _ _ (by simp), World.cell?_setCell_same _ _ _ h.1.2.1]
  · rw [World.cell?_setCell_same _ _ _ (u := v) (by rw [World.cell?_setCell_other _ _ _ _ (by simp)]; exact h.1.2.2)]
theorem grown_set (w : World) (p : Addr) (u : Value) : w.grownBy (w.setCell p u) (some p.block) :=
  ⟨rfl, rfl, rfl, by simp, fun k hk hn => Below.heap_setCell w p u k (fun e => hn (by rw [e]))⟩
theorem Var2.set1 {w : World} {b : Nat} {u v : Value} (h : Var2 w b u v) (v' : Value) : Var2 (w.setCell ⟨b, 1, none⟩ v') b u v' := by
  refine ⟨⟨by simpa using h.1.1, ?_, ?_⟩, by simpa using h.2.1, by simpa using h.2.2⟩
  · rw [World.cell?_setCell_other _ _ _ _ (by simp)]; exact h.1.2.1
  · rw [World.cell?_setCell_same _ _ _ h.1.2.2]
theorem Box2.set {w : World} {b : Nat} {u v : Value} (h : Box2 w b u v) {p : Addr} (x : Value) (hne : b ≠ p.block) : Box2 (w.setCell p x) b u v :=
  h.kept (grown_set w p x) (by simpa using hne)
theorem Var2.other {w : World} {b : Nat} {u v : Value} (h : Var2 w b u v) {p : Addr} (x : Value) (hne : b ≠ p.block) : Var2 (w.setCell p x) b u v :=
  h.kept (grown_set w p x) (by simpa using hne)
theorem ne_own {v : Value} {b : Nat} (h : ∀ c, v.ownBlock = some c → c ≠ b) : some b ≠ v.ownBlock := fun e => h b e.symm rfl
theorem grown_alloc_set {w w1 : World} {r : Option Nat} {o : Obj} (h : (w.alloc o).grownBy w1 r) : w.grownBy w1 r :=
  ⟨h.os, h.tape, h.output, by have := h.size; simp at this; omega, fun k hk hn => (h.block k (by simp; omega) hn).trans (Below.heap_alloc w o k hk)⟩
theorem grown_trans {w w1 w2 : World} {r : Option Nat} (h1 : w.grownBy w1 r) (h2 : w1.grownBy w2 r) : w.grownBy w2 r :=
  ⟨h2.os.trans h1.os, h2.tape.trans h1.tape, h2.output.trans h1.output, Nat.le_trans h1.size h2.size, fun k hk hn => (h2.block k (by have := h1.size; omega) hn).trans (h1.block k hk hn)⟩
theorem OwnI.nil (w : World) (B : Nat) : OwnI w B (.slice none 0 0) [] := World.ownsRow_nil _ _ _ _
theorem below_of_grown {w w' : World} {v : Value} {B : Nat} (hg : w.grownBy w' v.ownBlock) (hB : ∀ b, v.ownBlock = some b → B ≤ b) (hs : B ≤ w.heap.size) : Below B w w' :=
  ⟨hg.os, hg.tape, hg.output, hg.size, fun k hk => hg.block k (by omega) (fun e => by have := hB k e.symm; omega)⟩

def szF (left : Int) (n : Nat) : Int := if left - n < 0 then -1 else left - n
theorem szIntS_any (a : Option Addr) (n cap : Nat) (l : Int) (w : World) (h0 : 0 ≤ l) (h1 : l ≤ 1048576) (hn : n ≤ 9223372036854775807) :
    Calls Try.prog 46 #[.slice a n cap, .int .i64 l] w fun e w' => e = .returned (.int .i64 (szF l n)) ∧ w = w' := by
  by_cases h : l - n < 0
  · go_enter Try.func46, Try.ntmps46
    go_wp2
    go_ret
    exact ⟨ret_int (by simp [szF, h]), rfl⟩
  · go_enter Try.func46, Try.ntmps46
    go_wp2
    go_ret
    exact ⟨ret_int (by rw [szF, if_neg (by omega)]), rfl⟩

theorem szOrder_any (n : Int) (a : Option Addr) (len cap : Nat) (l : Int) (w : World) (h0 : 0 ≤ l) (h1 : l ≤ 1048576) (hn : len ≤ 9223372036854775807) :
    Calls Try.prog 12 #[.agg #[.int .i64 n, .slice a len cap], .int .i64 l] w fun e w' => e = .returned (.int .i64 (szF l len)) ∧ Below w.heap.size w w' := by
  by_cases h : l - len < 0
  · have hs : szF l len = -1 := by simp [szF, h]
    rw [hs]
    have HS := Lib.hid hs
    clear hs
    go_enter Try.func12, Try.ntmps12
    go_wp2_with (go_at_call 46; refine (szIntS_any _ _ _ _ _ h0 h1 hn).mono ?_; rintro e w' ⟨rfl, rfl⟩; rw [HS.out])
    go_ret
    exact ⟨rfl, (Below.refl _ _).alloc (Nat.le_refl _) _⟩
  · have hs : szF l len = l - len := by rw [szF, if_neg (by omega)]
    have hp : 0 ≤ szF l len := by omega
    clear hs
    go_enter Try.func12, Try.ntmps12
    go_wp2_with (go_at_call 46; refine (szIntS_any _ _ _ _ _ h0 h1 hn).mono ?_; rintro e w' ⟨rfl, rfl⟩)
    go_ret
    exact ⟨rfl, (Below.refl _ _).alloc (Nat.le_refl _) _⟩

theorem szOrder_ok {n : Int} {a : Option Addr} {len cap : Nat} {l : Int} {w : World} (h1 : l ≤ 1048576) (h : len ≤ l) :
    Calls Try.prog 12 #[.agg #[.int .i64 n, .slice a len cap], .int .i64 l] w fun e w' => e = .returned (.int .i64 (l - len)) ∧ Below w.heap.size w w' :=
  (szOrder_any n a len cap l w (by omega) h1 (by omega)).mono (fun e w' hh => ⟨by rw [hh.1, szF, if_neg (by omega)], hh.2⟩)
theorem szOrder_no {n : Int} {a : Option Addr} {len cap : Nat} {l : Int} {w : World} (h0 : 0 ≤ l) (h1 : l ≤ 1048576) (h : l < len) (hl : len ≤ 9223372036854775807) :
    Calls Try.prog 12 #[.agg #[.int .i64 n, .slice a len cap], .int .i64 l] w fun e w' => e = .returned (.int .i64 (-1)) ∧ Below w.heap.size w w' :=
  (szOrder_any n a len cap l w h0 h1 hl).mono (fun e w' hh => ⟨by rw [hh.1, szF, if_pos (by omega)], hh.2⟩)

theorem set_step (xs : List Int) (k : Nat) (h : k < xs.length) :
    ((xs.take k ++ List.replicate (xs.length - k) (0:Int)).map (Value.int .i64)).set k (.int .i64 (nth xs k)) = (xs.take (k+1) ++ List.replicate (xs.length - (k+1)) (0:Int)).map (Value.int .i64) := by
  apply List.ext_getElem?
  intro j
  have hk : (xs.take k).length = k := by simp; omega
  have hk1 : (xs.take (k+1)).length = k+1 := by simp; omega
  rw [List.getElem?_set]
  by_cases hj : k = j
  · subst hj
    rw [if_pos rfl, if_pos (by simp; omega), List.getElem?_map, List.getElem?_append_left (by omega)]
    simp [nth, h]
  · simp only [hj, if_false, List.getElem?_map, List.getElem?_append, hk, hk1, List.getElem?_take, List.getElem?_replicate]
    by_cases h1 : j < k
    · have h2 : j < k + 1 := by omega
      simp [h1, h2]
    · have h2 : ¬ j < k + 1 := by omega
      have h3 : j - k < xs.length - k ↔ j - (k+1) < xs.length - (k+1) := by omega
      simp [h1, h2, h3]
theorem toIntS_any (a : Option Addr) (xs : List Int) (cap : Nat) (w : World) (hx : Rd w a xs) (hn : xs.length ≤ 1048576) :
    Calls Try.prog 44 #[.slice a xs.length cap] w fun e w' => ∃ a' cap', e = .returned (.slice a' xs.length cap') ∧ OwnI w' w.heap.size (.slice a' xs.length cap') xs ∧ Below w.heap.size w w' := by
  obtain ⟨i0, hi, hz0, hz1, hz2⟩ := info_parts infoInt
  go_enter Try.func44, Try.ntmps44
  go_wp2_with (at_make; refine wpList_make_full _ rfl (.tmp 6) (.tmp 6) 22 rfl w.heap.size 3 i0 (.int .i64 0) 1 Try.underlying22 hi hz0 hz1 .i64 .i64 _ _ xs.length rfl rfl rfl rfl (by rw [hz2]; omega) (by unfold maxLen; omega) (Nat.le_refl _) ?_; intro w1 hown hgrow)
  have hb0 : Below w.heap.size w w1 := (Below.refl _ _).grown hgrow (Nat.le_refl _) (fun k h => by cases h)
  have hown0 : w1.ownsRow w.heap.size 3 1 (.slice (some ⟨w.heap.size, 0, none⟩) xs.length xs.length) xs.length ((xs.take 0 ++ List.replicate (xs.length - 0) (0:Int)).map (Value.int .i64)) := by
    simpa [Value.cells, toList_madeCells_one] using hown
  clear hown hgrow
  have hz : w.heap.size < w1.heap.size := by
    have := (World.ownsRow.lt hown0 w.heap.size rfl).2
    omega
  go_loopw [4] (fun i wr => ∃ k : Nat, k ≤ xs.length ∧ i = .int .i64 k ∧ wr.ownsRow w.heap.size 3 1 (.slice (some ⟨w.heap.size, 0, none⟩) xs.length xs.length) xs.length ((xs.take k ++ List.replicate (xs.length - k) (0:Int)).map (Value.int .i64)) ∧ Below w.heap.size w wr) (fun i _ => xs.length - (intOf i).toNat)
  case atStart => exact ⟨0, Nat.zero_le _, rfl, hown0, hb0⟩
  case round =>
    obtain ⟨k, hk, rfl, hown, hb⟩ := hrel
    by_cases hlt : k < xs.length
    · obtain ⟨b, off, rfl, hbl, hc⟩ := hx.cell k hlt
      have hc1 := (hb.cell (p := ⟨b, off + k, none⟩) hbl).trans hc
      have hst := World.ownsRow.stored hown k (.int .i64 (nth xs k))
      rw [set_step xs k hlt] at hst
      have hcc := World.ownsRow.cellAt hown k (by omega)
      have hfr := World.ownsRow.frozenAt hown k
      have hcc' : ∃ u, wr.cell? ⟨w.heap.size, k, none⟩ = some u := by
        rw [hcc]
        exact ⟨_, List.getElem?_eq_getElem (by simp; omega)⟩
      obtain ⟨u, hu⟩ := hcc'
      have Hst := Lib.hid hst
      clear hst hcc hown hc
      go_wp2
      go_roundw
      case rel => exact ⟨k + 1, by omega, by go_num, Hst.out.1, hb.setCell (Nat.le_refl _) _⟩
      case measure => simp [intOf]; omega
    · obtain rfl : k = xs.length := by omega
      go_wp2
      go_ret
      refine ⟨_, _, rfl, ?_, hb⟩
      have : xs.take xs.length ++ List.replicate (xs.length - xs.length) (0:Int) = xs := by simp
      rw [this] at hown
      exact hown

theorem toOrder_any (n : Int) (a : Option Addr) (xs : List Int) (cap : Nat) (w : World) (hx : Rd w a xs) (hn : xs.length ≤ 1048576) :
    Calls Try.prog 14 #[.agg #[.int .i64 n, .slice a xs.length cap]] w fun e w' => ∃ a' cap', e = .returned (.agg #[.int .i64 n, .slice a' xs.length cap']) ∧ OwnI w' w.heap.size (.slice a' xs.length cap') xs ∧ Below w.heap.size w w' := by
  go_enter Try.func14, Try.ntmps14
  go_wp2_with fail
  refine (toIntS_any _ _ _ _ (hx.below (by repeat (first | exact Below.refl _ _ | assumption | refine Below.alloc ?_ (by first | exact Nat.le_refl _ | (simp only [World.size_alloc, World.size_setCell, World.size_drew]; omega) | omega) _ | refine Below.setCell ?_ (by first | exact Nat.le_refl _ | (simp only [World.size_alloc, World.size_setCell, World.size_drew]; omega) | omega) _ | refine Below.drew ?_))) hn).mono ?_
  rintro e w1 ⟨a', cap', rfl, hown, hb⟩
  obtain ⟨hc, hf⟩ := bcell hb
  have hz := hb.size
  simp only [World.size_alloc, World.size_setCell] at hz
  go_wp2
  have hown' := ((((hown.setBelow (p := ⟨w.heap.size + 1 + 1, 1, none⟩) (by first | (simp only [World.size_alloc, World.size_setCell, World.size_drew]; omega) | omega) (.slice a' xs.length cap')).setBelow (p := ⟨w.heap.size + 1, 0, none⟩) (by first | (simp only [World.size_alloc, World.size_setCell, World.size_drew]; omega) | omega) (.int .i64 n)).setBelow (p := ⟨w.heap.size + 1, 1, none⟩) (by first | (simp only [World.size_alloc, World.size_setCell, World.size_drew]; omega) | omega) (.slice a' xs.length cap'))).mono (B' := w.heap.size) (by first | (simp only [World.size_alloc, World.size_setCell, World.size_drew]; omega) | omega)
  have hb' : Below w.heap.size w w1 := Below.trans (by repeat (first | exact Below.refl _ _ | assumption | refine Below.alloc ?_ (by first | exact Nat.le_refl _ | (simp only [World.size_alloc, World.size_setCell, World.size_drew]; omega) | omega) _ | refine Below.setCell ?_ (by first | exact Nat.le_refl _ | (simp only [World.size_alloc, World.size_setCell, World.size_drew]; omega) | omega) _ | refine Below.drew ?_)) (hb.mono (by first | (simp only [World.size_alloc, World.size_setCell, World.size_drew]; omega) | omega))
  refine bodyPost_ret (v := .agg #[.int .i64 n, .slice a' xs.length cap']) (by simp [results, Try.results14, go_sem, hc]) rfl ⟨a', cap', rfl, hown', ?_⟩
  exact ((hb'.setCell (by first | exact Nat.le_refl _ | (simp only [World.size_alloc, World.size_setCell, World.size_drew]; omega) | omega) _).setCell (by first | exact Nat.le_refl _ | (simp only [World.size_alloc, World.size_setCell, World.size_drew]; omega) | omega) _).setCell (by first | exact Nat.le_refl _ | (simp only [World.size_alloc, World.size_setCell, World.size_drew]; omega) | omega) _

def eqL (xs ys : List Int) : Bool := decide (xs = ys)
theorem eqIntS_any (a b : Option Addr) (xs ys : List Int) (ca cb : Nat) (w : World) (hx : Rd w a xs) (hy : Rd w b ys) :
    Calls Try.prog 16 #[.slice a xs.length ca, .slice b ys.length cb] w fun e w' => e = .returned (.bool (eqL xs ys)) ∧ Below w.heap.size w w' := by
  have hlx := hx.len
  have hly := hy.len
  by_cases hl : xs.length = ys.length
  · have hl' : ((xs.length : Int) != (ys.length : Int)) = false := by simp [hl]
    go_enter Try.func16, Try.ntmps16
    have HL := Lib.hid hl
    clear hl
    go_wp2_with fail
    go_loopw [5] (fun i wr => ∃ k : Nat, k ≤ xs.length ∧ i = .int .i64 k ∧ xs.take k = ys.take k ∧ Below w.heap.size w wr) (fun i _ => xs.length - (intOf i).toNat)
    case atStart => exact ⟨0, Nat.zero_le _, rfl, rfl, Below.refl _ _⟩
    case round =>
      obtain ⟨k, hk, rfl, htk, hb⟩ := hrel
      have HT := Lib.hid htk
      clear htk
      by_cases hlt : k < xs.length
      · have hlt' : k < ys.length := by rw [← HL.out]; exact hlt
        obtain ⟨b1, o1, rfl, hb1, hc1⟩ := (hx.below hb).cell k hlt
        obtain ⟨b2, o2, rfl, hb2, hc2⟩ := (hy.below hb).cell k hlt'
        by_cases he : nth xs k = nth ys k
        · have he' : (nth xs k != nth ys k) = false := by simp [he]
          have HE := Lib.hid he
          clear he
          go_wp2_with fail
          go_quiet (fail)
          go_wp2_with fail
          go_roundw
          case rel =>
            refine ⟨k + 1, by omega, by go_num, ?_, by exact hb.trans (Joins.below_draws _ _ _)⟩
            rw [List.take_succ_eq_append_getElem hlt, List.take_succ_eq_append_getElem hlt', HT.out, ← nth_get, ← nth_get, HE.out]
          case measure => simp [intOf]; omega
        · have he' : (nth xs k != nth ys k) = true := by simp [he]
          have hne : eqL xs ys = false := by
            simp only [eqL, decide_eq_false_iff_not]
            intro e
            subst e
            exact he rfl
          have HN := Lib.hid hne
          clear he hne
          go_wp2_with fail
          go_quiet (fail)
          go_wp2_with fail
          go_ret
          exact ⟨ret_bool HN.out.symm, hb.trans (Joins.below_draws _ _ _)⟩
      · go_wp2_with fail
        go_ret
        refine ⟨ret_bool ?_, hb⟩
        have h1 := HT.out
        rw [List.take_of_length_le (by omega), List.take_of_length_le (by rw [← HL.out]; omega)] at h1
        simp [eqL, h1]
  · have hl' : ((xs.length : Int) != (ys.length : Int)) = true := by simp; omega
    have hne : eqL xs ys = false := by
      simp only [eqL, decide_eq_false_iff_not]
      intro e
      exact hl (by rw [e])
    have HN := Lib.hid hne
    clear hl hne
    go_enter Try.func16, Try.ntmps16
    go_wp2_with fail
    go_ret
    exact ⟨ret_bool HN.out.symm, Below.refl _ _⟩
theorem eqL_self (xs : List Int) : eqL xs xs = true := by simp [eqL]

def eqO (n : Int) (xs : List Int) (m : Int) (ys : List Int) : Bool := decide (n = m) && eqL xs ys
theorem eqO_refl (n : Int) (xs : List Int) : eqO n xs n xs = true := by simp [eqO, eqL]
theorem eqOrder_any (n m : Int) (a b : Option Addr) (xs ys : List Int) (ca cb : Nat) (w : World) (hx : Rd w a xs) (hy : Rd w b ys) :
    Calls Try.prog 17 #[.agg #[.int .i64 n, .slice a xs.length ca], .agg #[.int .i64 m, .slice b ys.length cb]] w fun e w' => e = .returned (.bool (eqO n xs m ys)) ∧ Below w.heap.size w w' := by
  by_cases hn : n = m
  · have hn' : (n != m) = false := by simp [hn]
    have HN := Lib.hid hn
    clear hn
    cases he : eqL xs ys
    all_goals
      have HO : Hid (eqO n xs m ys = eqL xs ys) := by simp [Hid, eqO, HN.out]
      have HE := Lib.hid he
      clear he
      go_enter Try.func17, Try.ntmps17
      go_wp2_with fail
      refine (eqIntS_any _ _ xs ys _ _ _ (hx.below (by repeat (first | exact Below.refl _ _ | assumption | refine Below.alloc ?_ (by first | exact Nat.le_refl _ | (simp only [World.size_alloc, World.size_setCell, World.size_drew]; omega) | omega) _ | refine Below.setCell ?_ (by first | exact Nat.le_refl _ | (simp only [World.size_alloc, World.size_setCell, World.size_drew]; omega) | omega) _ | refine Below.drew ?_))) (hy.below (by repeat (first | exact Below.refl _ _ | assumption | refine Below.alloc ?_ (by first | exact Nat.le_refl _ | (simp only [World.size_alloc, World.size_setCell, World.size_drew]; omega) | omega) _ | refine Below.setCell ?_ (by first | exact Nat.le_refl _ | (simp only [World.size_alloc, World.size_setCell, World.size_drew]; omega) | omega) _ | refine Below.drew ?_)))).mono ?_
      rintro e w1 ⟨rfl, hb⟩
      rw [HE.out]
      obtain ⟨hc, hf⟩ := bcell hb
      go_wp2_with fail
      go_ret
      exact ⟨ret_bool (by rw [HO.out, HE.out]), Below.trans (by repeat (first | exact Below.refl _ _ | assumption | refine Below.alloc ?_ (by first | exact Nat.le_refl _ | (simp only [World.size_alloc, World.size_setCell, World.size_drew]; omega) | omega) _ | refine Below.setCell ?_ (by first | exact Nat.le_refl _ | (simp only [World.size_alloc, World.size_setCell, World.size_drew]; omega) | omega) _ | refine Below.drew ?_)) (hb.mono (by first | (simp only [World.size_alloc, World.size_setCell, World.size_drew]; omega) | omega))⟩
  · have hn' : (n != m) = true := by simp [hn]
    have HO : Hid (eqO n xs m ys = false) := by simp [Hid, eqO, hn]
    clear hn
    go_enter Try.func17, Try.ntmps17
    go_wp2_with fail
    go_ret
    exact ⟨ret_bool HO.out.symm, (by repeat (first | exact Below.refl _ _ | assumption | refine Below.alloc ?_ (by first | exact Nat.le_refl _ | (simp only [World.size_alloc, World.size_setCell, World.size_drew]; omega) | omega) _ | refine Below.setCell ?_ (by first | exact Nat.le_refl _ | (simp only [World.size_alloc, World.size_setCell, World.size_drew]; omega) | omega) _ | refine Below.drew ?_))⟩

def inB (n lo hi : Int) : Bool := decide (lo ≤ n) && decide (n ≤ hi)
theorem inB_iff {n lo hi : Int} : inB n lo hi = true ↔ lo ≤ n ∧ n ≤ hi := by simp [inB]
theorem inB_no {n lo hi : Int} : inB n lo hi = false ↔ n < lo ∨ hi < n := by
  rw [← Bool.not_eq_true, inB_iff]
  omega

def allB (xs : List Int) (lo hi : Int) : Bool := xs.all (fun x => inB x lo hi)
theorem allB_take (xs : List Int) (lo hi : Int) (k : Nat) (h : k < xs.length) : allB (xs.take (k+1)) lo hi = (allB (xs.take k) lo hi && inB (nth xs k) lo hi) := by
  simp only [allB]
  rw [List.take_succ_eq_append_getElem h, List.all_append]
  simp [nth, h]
theorem allB_false {xs : List Int} {lo hi : Int} {k : Nat} (h : k < xs.length) (h1 : inB (nth xs k) lo hi = false) : allB xs lo hi = false := by
  simp only [allB, List.all_eq_false]
  exact ⟨xs[k], List.getElem_mem h, by simpa [nth, h] using h1⟩
theorem allB_nth {xs : List Int} {lo hi : Int} (h : allB xs lo hi = true) {k : Nat} (hk : k < xs.length) : lo ≤ nth xs k ∧ nth xs k ≤ hi := by
  simp only [allB, List.all_eq_true] at h
  have := inB_iff.1 (h _ (List.getElem_mem hk))
  rwa [← nth_get xs k hk] at this

/-- is it a relation? -/
def relB (n : Int) (xs : List Int) : Bool := inB n 0 10 && decide ((xs.length : Int) = n) && allB xs 0 (2 ^ n.toNat - 1)
theorem relB_iff {n : Int} {xs : List Int} : relB n xs = true ↔ (0 ≤ n ∧ n ≤ 10) ∧ (xs.length : Int) = n ∧ allB xs 0 (2 ^ n.toNat - 1) = true := by
  simp [relB, inB_iff, and_assoc]
theorem pow10 {n : Nat} (h : n ≤ 10) : (1 : Int) ≤ 2 ^ n ∧ (2 : Int) ^ n ≤ 1024 := by
  have h1 : 2 ^ n ≤ 2 ^ 10 := Nat.pow_le_pow_right (by omega) h
  have h2 : 1 ≤ 2 ^ n := Nat.one_le_two_pow
  have h3 : ((2 ^ n : Nat) : Int) = (2 : Int) ^ n := by simp
  omega
theorem full_eq {n : Int} (h0 : 0 ≤ n) (h1 : n ≤ 10) : wrap64 (wrap64 (2 ^ n.toNat) - 1) = 2 ^ n.toNat - 1 := by
  have h2 := pow10 (n := n.toNat) (by omega)
  generalize (2 : Int) ^ n.toNat = p at *
  rw [IntWalk.wrap64_in p ⟨by omega, by omega⟩, IntWalk.wrap64_in _ ⟨by omega, by omega⟩]
structure RelP (n : Int) (xs : List Int) : Prop where
  n0 : 0 ≤ n
  n1 : n ≤ 10
  len : (xs.length : Int) = n
  pos : ∀ k, k < xs.length → 0 ≤ nth xs k
  lt : ∀ k, k < xs.length → nth xs k < 2 ^ xs.length
  small : ∀ k, k < xs.length → nth xs k < 1024
theorem relB_p {n : Int} {xs : List Int} (h : relB n xs = true) : RelP n xs := by
  obtain ⟨⟨h0, h1⟩, h2, h3⟩ := relB_iff.1 h
  have e : n.toNat = xs.length := by omega
  rw [e] at h3
  have hp := pow10 (n := xs.length) (by omega)
  exact ⟨h0, h1, h2, fun k hk => (allB_nth h3 hk).1, fun k hk => by have := (allB_nth h3 hk).2; omega, fun k hk => by have := (allB_nth h3 hk).2; omega⟩

theorem wrap64_small (n : Int) (h0 : -9223372036854775808 ≤ n) (h1 : n ≤ 9223372036854775807) : IntKind.i64.wrap n = n := by
  simp only [IntKind.wrap, IntKind.bits, IntKind.signed]
  simp
  omega
theorem i64_wrap (n : Int) : IntKind.i64.wrap n = wrap64 n := IntWalk.i64_left n
theorem ofInt_i64 (a : Nat) (ha : a < 9223372036854775808) : (BitVec.ofInt 64 (a : Int)).toNat = a := by
  simp
  omega
theorem and_nat (a b : Nat) (ha : a < 9223372036854775808) (hb : b < 9223372036854775808) : bits .and .i64 (a : Int) (b : Int) = ((a &&& b : Nat) : Int) := by
  have hx : a &&& b < 2 ^ 63 := Nat.and_lt_two_pow _ (by omega)
  show IntKind.i64.wrap ((BitVec.ofInt 64 (a : Int) &&& BitVec.ofInt 64 (b : Int)).toNat : Int) = _
  rw [BitVec.toNat_and, ofInt_i64 a ha, ofInt_i64 b hb, wrap64_small _ (by omega) (by omega)]
theorem or_nat (a b : Nat) (ha : a < 9223372036854775808) (hb : b < 9223372036854775808) : bits .or .i64 (a : Int) (b : Int) = ((a ||| b : Nat) : Int) := by
  have hx : a ||| b < 2 ^ 63 := Nat.or_lt_two_pow (by omega) (by omega)
  show IntKind.i64.wrap ((BitVec.ofInt 64 (a : Int) ||| BitVec.ofInt 64 (b : Int)).toNat : Int) = _
  rw [BitVec.toNat_or, ofInt_i64 a ha, ofInt_i64 b hb, wrap64_small _ (by omega) (by omega)]
/-- a set without the elements of another one -/
def sub (a b : Nat) : Nat := a ^^^ (a &&& b)
theorem testBit_sub (a b i : Nat) : (sub a b).testBit i = (a.testBit i && !b.testBit i) := by
  simp [sub, Nat.testBit_xor, Nat.testBit_and]
  cases a.testBit i <;> cases b.testBit i <;> rfl
theorem sub_lt {a b n : Nat} (h : a < 2 ^ n) : sub a b < 2 ^ n := by
  unfold sub
  exact Nat.xor_lt_two_pow h (by rw [Nat.and_comm]; exact Nat.and_lt_two_pow _ h)
theorem sub_nat (a b : Nat) (ha : a < 9223372036854775808) (hb : b < 9223372036854775808) : bits .andNot .i64 (a : Int) (b : Int) = ((sub a b : Nat) : Int) := by
  have hs : sub a b < 2 ^ 63 := sub_lt (by omega)
  show IntKind.i64.wrap ((BitVec.ofInt 64 (a : Int) &&& ~~~BitVec.ofInt 64 (b : Int)).toNat : Int) = _
  have e : (BitVec.ofInt 64 (a : Int) &&& ~~~BitVec.ofInt 64 (b : Int)).toNat = sub a b := by
    apply Nat.eq_of_testBit_eq
    intro i
    rw [BitVec.testBit_toNat, BitVec.getLsbD_and, BitVec.getLsbD_not, testBit_sub, ← BitVec.testBit_toNat, ← BitVec.testBit_toNat, ofInt_i64 a ha, ofInt_i64 b hb]
    by_cases hi : i < 64
    · simp [hi]
    · have : a.testBit i = false := Nat.testBit_lt_two_pow (Nat.lt_of_lt_of_le (by omega : a < 2 ^ 64) (Nat.pow_le_pow_right (by omega) (by omega)))
      simp [this]
  rw [e, wrap64_small _ (by omega) (by omega)]
theorem shr_nat (s i : Nat) (hs : s < 9223372036854775808) : (s : Int) / (2 ^ min i 64) = ((s >>> i : Nat) : Int) := by
  rw [Nat.shiftRight_eq_div_pow]
  by_cases h : i ≤ 64
  · rw [Nat.min_eq_left h]
    simp
  · rw [Nat.min_eq_right (by omega)]
    have : 2 ^ 64 ≤ 2 ^ i := Nat.pow_le_pow_right (by omega) (by omega)
    rw [Nat.div_eq_of_lt (by omega)]
    omega
theorem bit_and (s i : Nat) (hs : s < 9223372036854775808) : (bits .and .i64 ((s >>> i : Nat) : Int) 1 == 1) = s.testBit i := by
  have h1 : s >>> i ≤ s := by rw [Nat.shiftRight_eq_div_pow]; exact Nat.div_le_self _ _
  have := and_nat (s >>> i) 1 (by omega) (by omega)
  rw [show ((1 : Nat) : Int) = 1 from rfl] at this
  rw [this, Nat.testBit, Nat.and_one_is_mod, Nat.and_comm, Nat.and_one_is_mod]
  rcases Nat.mod_two_eq_zero_or_one (s >>> i) with h | h <;> simp [h]
theorem bit_mod (s i : Nat) : (((s >>> i : Nat) : Int) % 2 == 1) = s.testBit i := by
  rw [Nat.testBit, Nat.and_comm, Nat.and_one_is_mod]
  rcases Nat.mod_two_eq_zero_or_one (s >>> i) with h | h
  · have h2 : ((s >>> i : Nat) : Int) % 2 = 0 := by omega
    rw [h2, h]; rfl
  · have h2 : ((s >>> i : Nat) : Int) % 2 = 1 := by omega
    rw [h2, h]; rfl
theorem bit_tmod (s i : Nat) : (((s >>> i : Nat) : Int).tmod 2 == 1) = s.testBit i := by
  rw [Int.tmod_eq_emod_of_nonneg (Int.natCast_nonneg _), bit_mod]
/-- is i in the set s? -/
def hasB (s i : Int) : Bool := s.toNat.testBit i.toNat
theorem has_and {s i : Int} (h0 : 0 ≤ s) (h1 : s ≤ 9223372036854775807) (hi : 0 ≤ i) : (bits .and .i64 (s / 2 ^ min i.toNat 64) 1 == 1) = hasB s i := by
  obtain ⟨S, rfl⟩ := Int.eq_ofNat_of_zero_le h0
  rw [shr_nat S _ (by omega), bit_and S _ (by omega)]
  rfl
theorem has_mod {s i : Int} (h0 : 0 ≤ s) (h1 : s ≤ 9223372036854775807) (hi : 0 ≤ i) : ((s / 2 ^ min i.toNat 64).tmod 2 == 1) = hasB s i := by
  obtain ⟨S, rfl⟩ := Int.eq_ofNat_of_zero_le h0
  rw [shr_nat S _ (by omega), bit_tmod S]
  rfl
theorem pow_w {k : Nat} (h : k < 62) : wrap64 (2 ^ k) = ((2 ^ k : Nat) : Int) := by
  have : 2 ^ k ≤ 2 ^ 61 := Nat.pow_le_pow_right (by omega) (by omega)
  rw [show ((2:Int) ^ k) = ((2 ^ k : Nat) : Int) by simp]
  generalize hp : 2 ^ k = p at *
  exact IntWalk.wrap64_in _ ⟨by omega, by omega⟩
theorem or_bit {b k : Nat} (hb : b < 4611686018427387904) (hk : k < 62) : bits .or .i64 (b : Int) (wrap64 (2 ^ k)) = ((b ||| 2 ^ k : Nat) : Int) := by
  rw [pow_w hk]
  have : 2 ^ k ≤ 2 ^ 61 := Nat.pow_le_pow_right (by omega) (by omega)
  exact or_nat _ _ (by omega) (by omega)
theorem or_i {a b : Int} (ha : 0 ≤ a) (ha1 : a < 9223372036854775808) (hb : 0 ≤ b) (hb1 : b < 9223372036854775808) : bits .or .i64 a b = ((a.toNat ||| b.toNat : Nat) : Int) := by
  obtain ⟨A, rfl⟩ := Int.eq_ofNat_of_zero_le ha
  obtain ⟨B, rfl⟩ := Int.eq_ofNat_of_zero_le hb
  exact or_nat A B (by omega) (by omega)
theorem sub_i {a b : Int} (ha : 0 ≤ a) (ha1 : a < 9223372036854775808) (hb : 0 ≤ b) (hb1 : b < 9223372036854775808) : bits .andNot .i64 a b = ((sub a.toNat b.toNat : Nat) : Int) := by
  obtain ⟨A, rfl⟩ := Int.eq_ofNat_of_zero_le ha
  obtain ⟨B, rfl⟩ := Int.eq_ofNat_of_zero_le hb
  exact sub_nat A B (by omega) (by omega)
theorem or_lt {a b n : Nat} (ha : a < 2 ^ n) (hb : b < 2 ^ n) : a ||| b < 2 ^ n := Nat.or_lt_two_pow ha hb
theorem two_lt {k n : Nat} (h : k < n) : 2 ^ k < 2 ^ n := Nat.pow_lt_pow_right (by omega) h
theorem testBit_two (k i : Nat) : (2 ^ k).testBit i = decide (k = i) := Nat.testBit_two_pow

/-- the first answer that a function gives below n -/
def find1 {α : Type} (f : Nat → Option α) (n : Nat) : Option α := (List.range n).findSome? f
theorem find1_none {α : Type} {f : Nat → Option α} {n : Nat} (h : ∀ j, j < n → f j = none) : find1 f n = none := by
  rw [find1, List.findSome?_eq_none_iff]
  intro x hx
  exact h x (by simpa using hx)
theorem find1_succ {α : Type} {f : Nat → Option α} (n : Nat) : find1 f (n+1) = (find1 f n).or (f n) := by
  rw [find1, List.range_succ, List.findSome?_append]
  simp [find1, List.findSome?]
  cases f n <;> rfl
theorem find1_some {α : Type} {f : Nat → Option α} {x : α} : ∀ {n k : Nat}, k < n → f k = some x → (∀ j, j < k → f j = none) → find1 f n = some x
  | 0, k, hk, _, _ => by omega
  | n+1, k, hk, h1, h2 => by
    rw [find1_succ]
    by_cases e : k = n
    · subst e
      rw [find1_none h2, h1]; rfl
    · rw [find1_some (n := n) (by omega) h1 h2]; rfl
theorem find1_congr {α : Type} {f g : Nat → Option α} {n : Nat} (h : ∀ j, j < n → f j = g j) : find1 f n = find1 g n := by
  unfold find1
  induction n with
  | zero => rfl
  | succ n ih =>
    have := ih (fun j hj => h j (by omega))
    rw [List.range_succ, List.findSome?_append, List.findSome?_append, this]
    congr 1
    simp [List.findSome?, h n (by omega)]
theorem find1_ex {α : Type} {f : Nat → Option α} {x : α} : ∀ {n : Nat}, find1 f n = some x → ∃ k, k < n ∧ f k = some x ∧ ∀ j, j < k → f j = none
  | 0, h => by simp [find1] at h
  | n+1, h => by
    rw [find1_succ] at h
    cases hf : find1 f n with
    | none =>
      rw [hf] at h
      refine ⟨n, by omega, by simpa using h, fun j hj => ?_⟩
      rw [find1, List.findSome?_eq_none_iff] at hf
      exact hf j (by simpa using hj)
    | some y =>
      rw [hf] at h
      have e : y = x := by simpa using h
      subst e
      obtain ⟨k, hk, h1, h2⟩ := find1_ex hf
      exact ⟨k, by omega, h1, h2⟩
theorem find1_map {α β : Type} {f : Nat → Option α} {g : α → β} {n : Nat} : find1 (fun j => (f j).map g) n = (find1 f n).map g := by
  induction n with
  | zero => rfl
  | succ n ih => rw [find1_succ, find1_succ, ih]; cases find1 f n <;> rfl

/-- one step of the closing: what is above k goes to i, if k is above i -/
def clStep (xs : List Int) (k i : Nat) : List Int := if hasB (nth xs i) k then xs.set i (((nth xs i).toNat ||| (nth xs k).toNat : Nat) : Int) else xs
def clRow (xs : List Int) (k : Nat) : Nat → List Int
  | 0 => xs
  | i+1 => clStep (clRow xs k i) k i
def clAll (xs : List Int) : Nat → List Int
  | 0 => xs
  | k+1 => clRow (clAll xs k) k xs.length
theorem clStep_len (xs : List Int) (k i : Nat) : (clStep xs k i).length = xs.length := by
  unfold clStep; split <;> simp
theorem clRow_len (xs : List Int) (k : Nat) : ∀ i, (clRow xs k i).length = xs.length
  | 0 => rfl
  | i+1 => by rw [clRow, clStep_len, clRow_len xs k i]
theorem clAll_len (xs : List Int) : ∀ k, (clAll xs k).length = xs.length
  | 0 => rfl
  | k+1 => by rw [clAll, clRow_len, clAll_len xs k]
/-- all numbers of a list are sets below 1024 -/
def Small (xs : List Int) : Prop := ∀ k, k < xs.length → 0 ≤ nth xs k ∧ nth xs k < 1024
theorem nth_set {xs : List Int} {i j : Nat} {x : Int} (hi : i < xs.length) : nth (xs.set i x) j = if i = j then x else nth xs j := by
  simp only [nth, List.getD_eq_getElem?_getD, List.getElem?_set]
  by_cases h : i = j
  · subst h; simp [hi]
  · simp [h]
theorem clStep_small {xs : List Int} (h : Small xs) {k i : Nat} (hk : k < xs.length) (hi : i < xs.length) : Small (clStep xs k i) := by
  unfold clStep
  split
  · intro j hj
    rw [nth_set hi]
    have h1 := h i hi
    have h2 := h k hk
    split
    · have : (nth xs i).toNat ||| (nth xs k).toNat < 2 ^ 10 := or_lt (by omega) (by omega)
      omega
    · exact h j (by simpa using hj)
  · exact h
theorem clRow_small {xs : List Int} (h : Small xs) {k : Nat} (hk : k < xs.length) : ∀ i, i ≤ xs.length → Small (clRow xs k i)
  | 0, _ => h
  | i+1, hi => clStep_small (clRow_small h hk i (by omega)) (by rw [clRow_len]; exact hk) (by rw [clRow_len]; omega)
theorem clAll_small {xs : List Int} (h : Small xs) : ∀ k, k ≤ xs.length → Small (clAll xs k)
  | 0, _ => h
  | k+1, hk => clRow_small (clAll_small h k (by omega)) (by rw [clAll_len]; omega) _ (by rw [clAll_len]; omega)
theorem RelP.sm {n : Int} {xs : List Int} (h : RelP n xs) : Small xs := fun k hk => ⟨h.pos k hk, h.small k hk⟩
theorem set_ints (xs : List Int) (i : Nat) (x : Int) : (xs.map (Value.int .i64)).set i (.int .i64 x) = (xs.set i x).map (Value.int .i64) := by
  rw [List.map_set]
/-- a store into an owned row -/
theorem OwnI.put {w : World} {B g n cap : Nat} {xs : List Int} (h : OwnI w B (.slice (some ⟨g, 0, none⟩) n cap) xs) (hn : n = xs.length) (i : Nat) (x : Int) :
    OwnI (w.setCell ⟨g, i, none⟩ (.int .i64 x)) B (.slice (some ⟨g, 0, none⟩) n cap) (xs.set i x) ∧ w.grownBy (w.setCell ⟨g, i, none⟩ (.int .i64 x)) (some g) := by
  subst hn
  have hst := World.ownsRow.stored h i (.int .i64 x)
  rw [set_ints] at hst
  refine ⟨?_, hst.2⟩
  unfold OwnI
  rw [List.length_set]
  exact hst.1
theorem OwnI.at' {w : World} {B g n cap : Nat} {xs : List Int} (h : OwnI w B (.slice (some ⟨g, 0, none⟩) n cap) xs) (hn : n = xs.length) {i : Nat} (hi : i < xs.length) :
    w.cell? ⟨g, i, none⟩ = some (.int .i64 (nth xs i)) ∧ w.frozen? ⟨g, i, none⟩ = false := by
  subst hn
  refine ⟨?_, World.ownsRow.frozenAt h i⟩
  rw [World.ownsRow.cellAt h i (by omega)]
  simp [nth, hi]
theorem OwnI.head {w : World} {B n cap : Nat} {a : Option Addr} {xs : List Int} (h : OwnI w B (.slice a n cap) xs) (hp : 0 < xs.length) : ∃ g, a = some ⟨g, 0, none⟩ ∧ B ≤ g ∧ g < w.heap.size := by
  rcases h.2 with ⟨e, h0⟩ | ⟨g, c, cur, e, hb, hg, _⟩
  · omega
  · simp only [Value.slice.injEq] at e
    exact ⟨g, e.1, hb, (Array.getElem?_eq_some_iff.1 hg).1⟩
def cloN (n : Int) (xs : List Int) : Int := if relB n xs then n else 0
def cloL (n : Int) (xs : List Int) : List Int := if relB n xs then clAll xs xs.length else []
theorem cloL_len (n : Int) (xs : List Int) : (cloL n xs).length ≤ 1048576 := by
  unfold cloL
  split
  · rename_i h
    have hp := relB_p h
    have := hp.len
    have := hp.n1
    rw [clAll_len]
    omega
  · simp

/-- the least number that is greater than all of the first k -/
def unTo (l : List Int) : Nat → Nat
  | 0 => 0
  | k+1 => max (unTo l k) ((nth l k).toNat + 1)
/-- the first list that goes on a list so far, in which each longer beginning fits -/
def cnS (F : List Int → Bool) (lim : Nat) : Nat → List Int → Option (List Int)
  | 0, l => some l
  | d+1, l => find1 (fun x => if F (l ++ [(x : Int)]) then cnS F lim d (l ++ [(x : Int)]) else none) (min lim (unTo l l.length + 1))
theorem cnS_len {F : List Int → Bool} {lim : Nat} : ∀ {d : Nat} {l ys : List Int}, cnS F lim d l = some ys → ys.length = l.length + d
  | 0, l, ys, h => by simp only [cnS, Option.some.injEq] at h; rw [h]; rfl
  | d+1, l, ys, h => by
    simp only [cnS] at h
    obtain ⟨x, _, h1, _⟩ := find1_ex h
    split at h1
    · have := cnS_len h1
      rw [this, List.length_append]; simp; omega
    · cases h1
/-- are all numbers of a list less than a limit? -/
def LtL (lim : Nat) (l : List Int) : Prop := ∀ i, i < l.length → 0 ≤ nth l i ∧ nth l i < (lim : Int)
theorem LtL.snoc {lim : Nat} {l : List Int} (h : LtL lim l) {x : Nat} (hx : x < lim) : LtL lim (l ++ [(x : Int)]) := by
  intro i hi
  rw [List.length_append, List.length_singleton] at hi
  by_cases e : i = l.length
  · have : nth (l ++ [(x : Int)]) i = (x : Int) := by simp [nth, List.getD_eq_getElem?_getD, e]
    rw [this]; omega
  · have : nth (l ++ [(x : Int)]) i = nth l i := by simp [nth, List.getD_eq_getElem?_getD, List.getElem?_append_left (show i < l.length by omega)]
    rw [this]; exact h i (by omega)
theorem unTo_le {lim : Nat} {l : List Int} (h : LtL lim l) : ∀ k, k ≤ l.length → unTo l k ≤ lim
  | 0, _ => by simp [unTo]
  | k+1, hk => by
    have ih := unTo_le h k (by omega)
    have h1 := h k (by omega)
    simp only [unTo]
    omega

def memB (es : List Int) (i : Int) : Bool := (List.range es.length).any (fun k => nth es k == i)
theorem memB_iff {es : List Int} {i : Int} : memB es i = true ↔ ∃ k, k < es.length ∧ nth es k = i := by simp [memB]

/-- the elements of a set that are less than k, in order -/
def elemsTo (s : Nat) : Nat → List Int
  | 0 => []
  | k+1 => if s.testBit k then elemsTo s k ++ [(k : Int)] else elemsTo s k
theorem elemsTo_len (s : Nat) : ∀ k, (elemsTo s k).length ≤ k
  | 0 => by simp [elemsTo]
  | k+1 => by
    have := elemsTo_len s k
    simp only [elemsTo]
    split <;> simp <;> omega
theorem mem_elemsTo (s : Nat) (x : Int) : ∀ k, x ∈ elemsTo s k ↔ ∃ i : Nat, i < k ∧ s.testBit i = true ∧ x = i
  | 0 => by simp [elemsTo]
  | k+1 => by
    have ih := mem_elemsTo s x k
    simp only [elemsTo]
    cases hb : s.testBit k
    · rw [if_neg (by simp), ih]
      constructor
      · rintro ⟨i, h1, h2, h3⟩
        exact ⟨i, by omega, h2, h3⟩
      · rintro ⟨i, h1, h2, h3⟩
        have : i ≠ k := fun e => by rw [e, hb] at h2; cases h2
        exact ⟨i, by omega, h2, h3⟩
    · rw [if_pos rfl, List.mem_append, ih]
      constructor
      · rintro (⟨i, h1, h2, h3⟩ | h)
        · exact ⟨i, by omega, h2, h3⟩
        · exact ⟨k, by omega, hb, by simpa using h⟩
      · rintro ⟨i, h1, h2, h3⟩
        by_cases e : i = k
        · exact .inr (by simp [h3, e])
        · exact .inl ⟨i, by omega, h2, h3⟩
theorem elemsTo_more (s k : Nat) (h : s >>> k = 0) : ∀ m, elemsTo s (k + m) = elemsTo s k
  | 0 => rfl
  | m+1 => by
    have hb : s.testBit (k + m) = false := by
      rw [Nat.testBit]
      have : s >>> (k + m) = 0 := by rw [Nat.shiftRight_add, h]; simp
      simp [this]
    show elemsTo s (k + m + 1) = _
    simp only [elemsTo, hb]
    exact elemsTo_more s k h m
/-- all elements of a set below 1024 -/
def elems (s : Nat) : List Int := elemsTo s 10
theorem elems_at {s k : Nat} (h : s >>> k = 0) (hk : k ≤ 10) : elemsTo s k = elems s := by
  have := elemsTo_more s k h (10 - k)
  rw [show k + (10 - k) = 10 from by omega] at this
  exact this.symm
theorem elems_len (s : Nat) : (elems s).length ≤ 10 := elemsTo_len s 10
theorem mem_elems {s : Nat} (hs : s < 1024) {x : Int} : x ∈ elems s ↔ ∃ i : Nat, s.testBit i = true ∧ x = i := by
  rw [elems, mem_elemsTo]
  constructor
  · rintro ⟨i, _, h2, h3⟩
    exact ⟨i, h2, h3⟩
  · rintro ⟨i, h2, h3⟩
    refine ⟨i, ?_, h2, h3⟩
    rcases Nat.lt_or_ge i 10 with h | h
    · exact h
    · have : s < 2 ^ i := Nat.lt_of_lt_of_le hs (Nat.pow_le_pow_right (by omega : 0 < 2) h)
      rw [Nat.testBit_lt_two_pow this] at h2
      cases h2
theorem nth_mem {xs : List Int} {k : Nat} (h : k < xs.length) : nth xs k ∈ xs := by
  rw [nth_get xs k h]; exact List.getElem_mem h
theorem mem_nth {xs : List Int} {x : Int} (h : x ∈ xs) : ∃ k, k < xs.length ∧ nth xs k = x := by
  obtain ⟨k, hk, e⟩ := List.getElem_of_mem h
  exact ⟨k, hk, by rw [nth_get xs k hk, e]⟩

/-- the set of the indices below k of the lists that have i -/
def belowTo (xs : List Int) (i : Int) : Nat → Nat
  | 0 => 0
  | k+1 => if hasB (nth xs k) i then belowTo xs i k ||| 2 ^ k else belowTo xs i k
theorem belowTo_lt (xs : List Int) (i : Int) : ∀ k, belowTo xs i k < 2 ^ k
  | 0 => by simp [belowTo]
  | k+1 => by
    have h := belowTo_lt xs i k
    have h2 : 2 ^ k < 2 ^ (k+1) := two_lt (by omega)
    simp only [belowTo]
    split
    · exact or_lt (by omega) h2
    · omega
theorem belowTo_small (xs : List Int) (i : Int) {k : Nat} (h : k ≤ 10) : belowTo xs i k < 1024 := by
  have h1 := belowTo_lt xs i k
  have h2 : 2 ^ k ≤ 2 ^ 10 := Nat.pow_le_pow_right (by omega) h
  omega
theorem belowTo_bit (xs : List Int) (i : Int) (j : Nat) : ∀ k, (belowTo xs i k).testBit j = (decide (j < k) && hasB (nth xs j) i)
  | 0 => by simp [belowTo]
  | k+1 => by
    have h := belowTo_bit xs i j k
    simp only [belowTo]
    by_cases hjk : j = k
    · subst hjk
      cases hb : hasB (nth xs j) i
      · simp [h]
      · simp [Nat.testBit_or, testBit_two]
    · have e : decide (j < k + 1) = decide (j < k) := by
        rw [decide_eq_decide]; omega
      rw [e, ← h]
      have hkj : ¬ k = j := fun e => hjk e.symm
      cases hb : hasB (nth xs k) i <;> simp [Nat.testBit_or, testBit_two, hkj]

def okAtB (xs : List Int) (k : Nat) : Bool := !hasB (nth xs k) k && (List.range xs.length).all (fun j => !hasB (nth xs k) j || sub (nth xs j).toNat (nth xs k).toNat == 0)
/-- is it an order? -/
def ordB (n : Int) (xs : List Int) : Bool := relB n xs && (List.range xs.length).all (okAtB xs)
theorem okAtB_iff {xs : List Int} {k : Nat} : okAtB xs k = true ↔ hasB (nth xs k) k = false ∧ ∀ j, j < xs.length → hasB (nth xs k) j = true → sub (nth xs j).toNat (nth xs k).toNat = 0 := by
  simp only [okAtB, Bool.and_eq_true, Bool.not_eq_true', List.all_eq_true, List.mem_range, Bool.or_eq_true, beq_iff_eq]
  constructor
  · rintro ⟨h1, h2⟩
    exact ⟨h1, fun j hj hb => (h2 j hj).resolve_left (by simp [hb])⟩
  · rintro ⟨h1, h2⟩
    refine ⟨h1, fun j hj => ?_⟩
    cases hb : hasB (nth xs k) j
    · exact .inl rfl
    · exact .inr (h2 j hj hb)
theorem ordB_iff {n : Int} {xs : List Int} : ordB n xs = true ↔ relB n xs = true ∧ ∀ k, k < xs.length → okAtB xs k = true := by
  simp [ordB]
theorem ordB_no {n : Int} {xs : List Int} {k : Nat} (hk : k < xs.length) (h : okAtB xs k = false) : ordB n xs = false := by
  rw [← Bool.not_eq_true, ordB_iff]
  rintro ⟨_, h2⟩
  rw [h2 k hk] at h
  cases h
theorem okAtB_has {xs : List Int} {k : Nat} (h : hasB (nth xs k) k = true) : okAtB xs k = false := by
  simp [okAtB, h]
theorem okAtB_sub {xs : List Int} {k j : Nat} (hj : j < xs.length) (h : hasB (nth xs k) j = true) (h2 : sub (nth xs j).toNat (nth xs k).toNat ≠ 0) : okAtB xs k = false := by
  rw [← Bool.not_eq_true, okAtB_iff]
  rintro ⟨_, h3⟩
  exact h2 (h3 j hj h)
theorem sub_zero {a b : Nat} : sub a b = 0 ↔ ∀ i, a.testBit i = true → b.testBit i = true := by
  constructor
  · intro h i hi
    have := testBit_sub a b i
    rw [h, hi] at this
    simpa using this.symm
  · intro h
    apply Nat.eq_of_testBit_eq
    intro i
    rw [testBit_sub]
    cases ha : a.testBit i
    · simp
    · simp [h i ha]
theorem has_lt {n : Int} {xs : List Int} (hp : RelP n xs) {k : Nat} (hk : k < xs.length) {j : Nat} (h : hasB (nth xs k) j = true) : j < xs.length := by
  rcases Nat.lt_or_ge j xs.length with h' | h'
  · exact h'
  · have h1 := hp.lt k hk
    have h0 := hp.pos k hk
    have h2 : (nth xs k).toNat < 2 ^ j := by
      have : (2 : Nat) ^ xs.length ≤ 2 ^ j := Nat.pow_le_pow_right (by omega) h'
      have e : ((2 ^ xs.length : Nat) : Int) = (2 : Int) ^ xs.length := by simp
      omega
    simp only [hasB] at h
    rw [Int.toNat_natCast, Nat.testBit_lt_two_pow h2] at h
    cases h

/-- does the last element of a list stand to that with the index a, in both ways, as in the pattern? -/
def ptG (xs ys L : List Int) (a : Nat) : Bool :=
  (hasB (nth xs (nth L a).toNat) (nth L (L.length - 1)) == hasB (nth ys a) ((L.length - 1 : Nat) : Int)) && (hasB (nth xs (nth L (L.length - 1)).toNat) (nth L a) == hasB (nth ys (L.length - 1)) ((a : Nat) : Int))
def ptW (xs ys L : List Int) : Bool := (List.range L.length).all (ptG xs ys L)
/-- the first list that goes on a list so far and has the pattern -/
def fpS (xs ys : List Int) : Nat → List Int → Option (List Int)
  | 0, l => some l
  | d+1, l => find1 (fun i => if !memB l (i : Int) && ptW xs ys (l ++ [(i : Int)]) then fpS xs ys d (l ++ [(i : Int)]) else none) xs.length
theorem ptW_iff {xs ys L : List Int} : ptW xs ys L = true ↔ ∀ a, a < L.length → ptG xs ys L a = true := by simp [ptW]
theorem ptW_no {xs ys L : List Int} {a : Nat} (ha : a < L.length) (h : ptG xs ys L a = false) : ptW xs ys L = false := by
  rw [← Bool.not_eq_true, ptW_iff]
  intro h2
  rw [h2 a ha] at h; cases h
theorem fpS_len {xs ys : List Int} : ∀ {d : Nat} {l zs : List Int}, fpS xs ys d l = some zs → zs.length = l.length + d
  | 0, l, zs, h => by simp only [fpS, Option.some.injEq] at h; rw [h]; rfl
  | d+1, l, zs, h => by
    simp only [fpS] at h
    obtain ⟨x, _, h1, _⟩ := find1_ex h
    split at h1
    · have := fpS_len h1
      rw [this, List.length_append]; simp; omega
    · cases h1
theorem rel_at {n : Int} {xs : List Int} (hp : RelP n xs) {k : Nat} (hk : k < xs.length) : 0 ≤ nth xs k ∧ nth xs k ≤ 9223372036854775807 := ⟨hp.pos k hk, by have := hp.small k hk; omega⟩

def fpOk (n : Int) (xs : List Int) (m : Int) (ys : List Int) : Bool := relB n xs && relB m ys && decide (m ≤ 6)
def fpO (n : Int) (xs : List Int) (m : Int) (ys : List Int) : Option (List Int) := if fpOk n xs m ys then fpS xs ys ys.length [] else none
def fpV (n : Int) (xs : List Int) (m : Int) (ys : List Int) : List Int := (fpO n xs m ys).getD []
def fpB (n : Int) (xs : List Int) (m : Int) (ys : List Int) : Bool := (fpO n xs m ys).isSome
theorem fpV_len (n : Int) (xs : List Int) (m : Int) (ys : List Int) : (fpV n xs m ys).length ≤ 1048576 := by
  unfold fpV
  cases h : fpO n xs m ys with
  | none => simp
  | some zs =>
    rw [fpO] at h
    split at h
    · rename_i hok
      simp only [fpOk, Bool.and_eq_true, decide_eq_true_eq] at hok
      have h1 := fpS_len h
      have h2 := (relB_p hok.1.2).len
      simp only [Option.getD_some]
      simp at h1
      omega
    · cases h
theorem fp_no {n : Int} {xs : List Int} {m : Int} {ys : List Int} (h : fpOk n xs m ys = false) : fpV n xs m ys = [] ∧ fpB n xs m ys = false := by
  simp [fpV, fpB, fpO, h]
theorem fp_yes {n : Int} {xs : List Int} {m : Int} {ys : List Int} (h : fpOk n xs m ys = true) : fpV n xs m ys = (fpS xs ys ys.length []).getD [] ∧ fpB n xs m ys = (fpS xs ys ys.length []).isSome := by
  simp [fpV, fpB, fpO, h]

theorem nth_snoc_lt {l : List Int} {x : Int} {k : Nat} (h : k < l.length) : nth (l ++ [x]) k = nth l k := by
  simp [nth, List.getD_eq_getElem?_getD, List.getElem?_append_left h]
theorem nth_snoc_end (l : List Int) (x : Int) : nth (l ++ [x]) l.length = x := by
  simp [nth, List.getD_eq_getElem?_getD]
theorem ptG_at {xs ys l : List Int} {i : Nat} {k : Nat} (h : k < l.length) : ptG xs ys (l ++ [(i : Int)]) k = ((hasB (nth xs (nth l k).toNat) (i : Int) == hasB (nth ys k) (l.length : Int)) && (hasB (nth xs i) (nth l k) == hasB (nth ys l.length) (k : Int))) := by
  simp only [ptG, List.length_append, List.length_singleton, Nat.add_sub_cancel, nth_snoc_end, nth_snoc_lt h, Int.toNat_natCast]
theorem ptG_end {xs ys l : List Int} {i : Nat} : ptG xs ys (l ++ [(i : Int)]) l.length = (hasB (nth xs i) (i : Int) == hasB (nth ys l.length) (l.length : Int)) := by
  simp only [ptG, List.length_append, List.length_singleton, Nat.add_sub_cancel, nth_snoc_end, Int.toNat_natCast, Bool.and_self]
theorem ptW_snoc {xs ys l : List Int} {i : Nat} : ptW xs ys (l ++ [(i : Int)]) = true ↔ (∀ k, k < l.length → ptG xs ys (l ++ [(i : Int)]) k = true) ∧ (hasB (nth xs i) (i : Int) == hasB (nth ys l.length) (l.length : Int)) = true := by
  rw [ptW_iff, ← ptG_end]
  constructor
  · intro h
    exact ⟨fun k hk => h k (by simp; omega), h _ (by simp)⟩
  · rintro ⟨h1, h2⟩ a ha
    rw [List.length_append, List.length_singleton] at ha
    by_cases e : a = l.length
    · rw [e]; exact h2
    · exact h1 a (by omega)

theorem orHas_any (s i : Int) (w : World) (h0 : 0 ≤ s) (h1 : s ≤ 9223372036854775807) (hi : 0 ≤ i) :
    Calls Try.prog 77 #[.int .i64 s, .int .i64 i] w fun e w' => e = .returned (.bool (hasB s i)) ∧ w = w' := by
  have H := Lib.hid (has_mod h0 h1 hi)
  go_enter Try.func77, Try.ntmps77
  go_wp2
  go_ret
  exact ⟨ret_bool H.out, rfl⟩

theorem orHas_is {s i : Int} {b : Bool} (h0 : 0 ≤ s) (h1 : s ≤ 9223372036854775807) (hi : 0 ≤ i) (h : hasB s i = b) (w : World) (m : Nat) :
    Calls Try.prog 77 #[.int .i64 s, .int .i64 i] (w.drewN m) fun e w' => e = .returned (.bool b) ∧ ∃ k, w' = w.drewN k :=
  Calls.quiet_of_same ((orHas_any s i (w.drewN m) h0 h1 hi).mono (fun e w' hh => ⟨by rw [← h]; exact hh.1, hh.2.symm⟩))

theorem boxes2 {w w1 : World} {u v u2 v2 : Value} (hb1 : Below ((w.alloc (.cells #[u, v] 28)).alloc (.cells #[u2, v2] 28)).heap.size ((w.alloc (.cells #[u, v] 28)).alloc (.cells #[u2, v2] 28)) w1) :
    Box2 w1 w.heap.size u v ∧ Box2 w1 (w.heap.size + 1) u2 v2 ∧ Below w.heap.size w w1 := by
  refine ⟨((Box2.new w u v 28).below ((Below.refl _ _).alloc (Nat.le_refl _) _)).below hb1, ?_, Below.trans (by repeat (first | exact Below.refl _ _ | assumption | refine Below.alloc ?_ (by first | exact Nat.le_refl _ | (simp only [World.size_alloc, World.size_setCell, World.size_drew]; omega) | omega) _ | refine Below.setCell ?_ (by first | exact Nat.le_refl _ | (simp only [World.size_alloc, World.size_setCell, World.size_drew]; omega) | omega) _ | refine Below.drew ?_)) (hb1.mono (by first | (simp only [World.size_alloc, World.size_setCell, World.size_drew]; omega) | omega))⟩
  have h := (Box2.new (w.alloc (.cells #[u, v] 28)) u2 v2 28).below hb1
  simpa using h

set_option maxRecDepth 100000 in
set_option maxHeartbeats 2000000 in
theorem orFits_any (n : Int) (a : Option Addr) (xs : List Int) (cap : Nat) (m : Int) (b : Option Addr) (ys : List Int) (cap2 : Nat) (c : Option Addr) (l : List Int) (cap3 : Nat) (i : Nat) (w : World) (hx : Rd w a xs) (hp : RelP n xs) (hy : Rd w b ys) (hq : RelP m ys) (hz : Rd w c l) (hL1 : l.length < ys.length) (hL : LtL xs.length l) (hi : i < xs.length) :
    Calls Try.prog 93 #[.agg #[.int .i64 n, .slice a xs.length cap], .agg #[.int .i64 m, .slice b ys.length cap2], .slice c l.length cap3, .int .i64 (i : Int)] w fun e w' => e = .returned (.bool (!memB l (i : Int) && ptW xs ys (l ++ [(i : Int)]))) ∧ Below w.heap.size w w' := by
  have y10 : ys.length ≤ 10 := by have := hq.len; have := hq.n1; omega
  obtain ⟨A1, B1, bw1⟩ := boxes2 (w := w) (u := .int .i64 n) (v := .slice a xs.length cap) (u2 := .int .i64 m) (v2 := .slice b ys.length cap2) (Below.refl _ _)
  have n1 : (0 : Int) ≤ (i : Int) := by omega
  have n2 : (0 : Int) ≤ (l.length : Int) := by omega
  have ⟨r1, r2⟩ := rel_at hp hi
  have ⟨r3, r4⟩ := rel_at hq hL1
  have HZ := Lib.hid hz
  clear hz
  go_enter Try.func93, Try.ntmps93
  go_wp2_with fail
  obtain ⟨w1, hw1⟩ : ∃ x : World, x = (w.alloc (.cells #[.int .i64 n, .slice a xs.length cap] 28)).alloc (.cells #[.int .i64 m, .slice b ys.length cap2] 28) := ⟨_, rfl⟩
  rw [← hw1] at A1 B1 bw1 ⊢
  clear hw1
  go_loopw [16] (fun i' wr => ∃ k : Nat, k ≤ l.length ∧ i' = .int .i64 k ∧ Below w.heap.size w wr ∧ Box2 wr w.heap.size (.int .i64 n) (.slice a xs.length cap) ∧ Box2 wr (w.heap.size + 1) (.int .i64 m) (.slice b ys.length cap2) ∧ (∀ j, j < k → nth l j ≠ (i : Int) ∧ ptG xs ys (l ++ [(i : Int)]) j = true)) (fun i _ => l.length - (intOf i).toNat)
  case atStart => exact ⟨0, Nat.zero_le _, rfl, bw1, A1, B1, fun j hj => by omega⟩
  case round =>
    clear A1 B1 bw1
    obtain ⟨k, hk, rfl, hb, hA, hB, hall⟩ := hrel
    have HA := Lib.hid hall
    clear hall
    have ⟨zA, cA, dA⟩ := hA
    have ⟨zB, cB, dB⟩ := hB
    have HAA := Lib.hid hA
    have HBB := Lib.hid hB
    clear hA hB
    by_cases hlt : k < l.length
    · obtain ⟨b3, off3, rfl, hbl3, hck⟩ := (HZ.out.below hb).cell k hlt
      obtain ⟨p, hpe⟩ : ∃ p : Nat, nth l k = (p : Int) := ⟨(nth l k).toNat, by have := hL k hlt; omega⟩
      have hpx : p < xs.length := by have := hL k hlt; omega
      have HG : Hid (ptG xs ys (l ++ [(i : Int)]) k = ((hasB (nth xs p) (i : Int) == hasB (nth ys k) (l.length : Int)) && (hasB (nth xs i) (p : Int) == hasB (nth ys l.length) (k : Int)))) := by
        rw [Hid, ptG_at hlt, hpe, Int.toNat_natCast]
      have HPE := Lib.hid hpe
      rw [hpe] at hck
      have hky : k < ys.length := by omega
      obtain ⟨b1, off1, rfl, hbl1, hcp⟩ := (hx.below hb).cell p hpx
      obtain ⟨b5, off5, e5, hbl5, hcq⟩ := (hx.below hb).cell i hi
      simp only [Option.some.injEq, Addr.mk.injEq, and_true] at e5
      obtain ⟨rfl, rfl⟩ := e5
      obtain ⟨b2, off2, rfl, hbl2, hyk⟩ := (hy.below hb).cell k hky
      obtain ⟨b6, off6, e6, hbl6, hye⟩ := (hy.below hb).cell l.length hL1
      simp only [Option.some.injEq, Addr.mk.injEq, and_true] at e6
      obtain ⟨rfl, rfl⟩ := e6
      have ⟨r5, r6⟩ := rel_at hp hpx
      have ⟨r7, r8⟩ := rel_at hq hky
      have n3 : (0 : Int) ≤ (p : Int) := by omega
      have n4 : (0 : Int) ≤ (k : Int) := by omega
      clear hpe
      cases hd0 : ((p : Int) == (i : Int))
      · cases hd1 : (hasB (nth xs p) (i : Int) == hasB (nth ys k) (l.length : Int))
        · have HN : Hid ((!memB l (i : Int) && ptW xs ys (l ++ [(i : Int)])) = false) := by
            rw [Hid, ptW_no (a := k) (by simp; omega) (by rw [HG.out, hd1]; rfl), Bool.and_false]
          go_wp2_with fail
          go_quiet ((go_at_call 77; exact orHas_is (by assumption) (by assumption) (by assumption) rfl _ _))
          go_wp2_with fail
          go_ret
          exact ⟨ret_bool HN.out.symm, hb.trans ((Joins.below_draws _ _ _).mono hb.size)⟩
        · cases hd2 : (hasB (nth xs i) (p : Int) == hasB (nth ys l.length) (k : Int))
          · have HN : Hid ((!memB l (i : Int) && ptW xs ys (l ++ [(i : Int)])) = false) := by
              rw [Hid, ptW_no (a := k) (by simp; omega) (by rw [HG.out, hd1, hd2]; rfl), Bool.and_false]
            go_wp2_with fail
            go_quiet ((go_at_call 77; exact orHas_is (by assumption) (by assumption) (by assumption) rfl _ _))
            go_wp2_with fail
            go_ret
            exact ⟨ret_bool HN.out.symm, hb.trans ((Joins.below_draws _ _ _).mono hb.size)⟩
          · have HY : Hid (nth l k ≠ (i : Int) ∧ ptG xs ys (l ++ [(i : Int)]) k = true) := by
              refine ⟨?_, by rw [HG.out, hd1, hd2]; rfl⟩
              rw [HPE.out]; simpa using hd0
            go_wp2_with fail
            go_quiet ((go_at_call 77; exact orHas_is (by assumption) (by assumption) (by assumption) rfl _ _))
            have hqq : Below wr.heap.size wr (wr.drewN nq) := Joins.below_draws _ _ _
            have hb := hb.trans (hqq.mono hb.size)
            have hA := HAA.out.below hqq
            have hB := HBB.out.below hqq
            obtain ⟨wq, hwq⟩ : ∃ x : World, x = wr.drewN nq := ⟨_, rfl⟩
            rw [← hwq] at hb hA hB ⊢
            clear hwq hqq
            go_wp2_with fail
            go_roundw
            case rel =>
              refine ⟨k + 1, by omega, by go_num, hb, hA, hB, fun j hj => ?_⟩
              by_cases e : j = k
              · rw [e]; exact HY.out
              · exact HA.out j (by omega)
            case measure => simp [intOf]; omega
      · have HN : Hid ((!memB l (i : Int) && ptW xs ys (l ++ [(i : Int)])) = false) := by
          have : memB l (i : Int) = true := memB_iff.2 ⟨k, hlt, by rw [HPE.out]; simpa using hd0⟩
          rw [Hid, this]; rfl
        go_wp2_with fail
        go_quiet ((go_at_call 77; exact orHas_is (by assumption) (by assumption) (by assumption) rfl _ _))
        go_wp2_with fail
        go_ret
        exact ⟨ret_bool HN.out.symm, hb.trans ((Joins.below_draws _ _ _).mono hb.size)⟩
    · have hm : memB l (i : Int) = false := by
        rw [← Bool.not_eq_true, memB_iff]
        rintro ⟨j, hj, e⟩
        exact (HA.out j (by omega)).1 e
      obtain ⟨b5, off5, rfl, hbl5, hcq⟩ := (hx.below hb).cell i hi
      obtain ⟨b6, off6, rfl, hbl6, hye⟩ := (hy.below hb).cell l.length hL1
      have HV : Hid ((!memB l (i : Int) && ptW xs ys (l ++ [(i : Int)])) = (hasB (nth xs i) (i : Int) == hasB (nth ys l.length) (l.length : Int))) := by
        rw [Hid, hm, Bool.not_false, Bool.true_and, Bool.eq_iff_iff, ptW_snoc]
        constructor
        · rintro ⟨_, h⟩
          exact h
        · intro h
          exact ⟨fun j hj => (HA.out j (by omega)).2, h⟩
      clear hm
      go_wp2_with fail
      go_quiet ((go_at_call 77; exact orHas_is (by assumption) (by assumption) (by assumption) rfl _ _))
      go_wp2_with fail
      go_ret
      exact ⟨ret_bool HV.out.symm, hb.trans ((Joins.below_draws _ _ _).mono hb.size)⟩

/-- what a search hands back -/
def FsPost (W : World) (B : Nat) (r : Option (List Int)) (e : Ending) (w' : World) : Prop :=
  Below W.heap.size W w' ∧ ∃ a' cap', e = .returned (.tuple #[.slice a' (r.getD []).length cap', .bool r.isSome]) ∧ OwnI w' B (.slice a' (r.getD []).length cap') (r.getD [])

theorem wpList_append_none {P : Program} {w : World} {ops : Array Oper} {rest : List Oper} {o : Oper} {a : Act} {Q : Exit → Act → World → Prop} (hgd : o.guard = none) (s x : Operand) (t : TypeId)
    (ho : o.op = .call { callee := .builtin .append, args := #[s, x], argTypes := #[t, t] })
    (base : Nat) (e : TypeId) (i : TypeInfo) (size : Nat) (ht : P.underlying t = some (.slice e)) (hi : P.info? e = some i)
    (v : Value) (n c : Nat) (xs : List Value) (hs : a.eval s = v) (hown : w.ownsRow base e size v n xs) (hx : a.eval x = .slice none 0 c)
    (h : wpList P ops Q rest (a.put o.dst v) w) : wpList P ops Q (o :: rest) a w := by
  refine wpList_plain hgd fun K hK => ?_
  have hrun : (Builtin.append_ #[t, t] o.type #[v, .slice none 0 c]).run P w = .ok v w := by
    rcases hown.2 with ⟨rfl, rfl⟩ | ⟨g, cap, cur, rfl, _, _, hnc, _⟩
    · simp [Builtin.append_, run_underlying ht, sizeOf, typeInfo, hi, Builtin.lenOf, Builtin.firstCells]
    · simp [Builtin.append_, run_underlying ht, sizeOf, typeInfo, hi, Builtin.lenOf, Builtin.firstCells, hnc, storeCells]
  unfold Oper.wp
  simp [execOp, ho, resolve, invoke, builtin, hs, hx, hrun, Result.andThen]
  exact hK _ _ h
theorem rd_news {w : World} {ad : Addr} {xs : List Int} (hx : Rd w (some ad) xs) : ∀ j u, (xs.map (Value.int .i64))[j]? = some u → w.cell? (ad.add j) = some u := by
  intro j u hj
  rw [List.getElem?_map, Option.map_eq_some_iff] at hj
  obtain ⟨x, hx1, rfl⟩ := hj
  obtain ⟨hlt, e⟩ := List.getElem?_eq_some_iff.1 hx1
  obtain ⟨b, off, e1, _, hc⟩ := hx.cell j hlt
  simp only [Option.some.injEq] at e1
  subst e1
  rw [Addr.add_lit, hc, nth_get xs j hlt, e]
theorem ints_one (xs : List Int) : ∀ u ∈ xs.map (Value.int .i64), u.oneCell' = true := by
  intro u hu
  obtain ⟨x, _, rfl⟩ := List.mem_map.1 hu
  rfl

theorem l1Own_any (a : Option Addr) (xs : List Int) (cap : Nat) (w : World) (hx : Rd w a xs) (hn : xs.length ≤ 1048576) :
    Calls Try.prog 94 #[.slice a xs.length cap] w fun e w' => ∃ a' cap', e = .returned (.slice a' xs.length cap') ∧ OwnI w' w.heap.size (.slice a' xs.length cap') xs ∧ Below w.heap.size w w' := by
  obtain ⟨i0, hi, hz0, hz1, hz2⟩ := info_parts infoInt
  have hown : (w.alloc (.cells #[] 3)).ownsRow w.heap.size 3 1 (.slice (some ⟨w.heap.size, 0, none⟩) 0 0) 0 [] := World.ownsRow_lit w #[] 0 (Nat.le_refl _) (by simp [maxLen]) (by simp)
  cases a with
  | none =>
    have h0 : xs = [] := by
      rcases xs with _ | ⟨x, t⟩
      · rfl
      · obtain ⟨b, off, e, _⟩ := hx.cell 0 (by simp)
        cases e
    subst h0
    go_enter Try.func94, Try.ntmps94
    go_wp2_with (at_builtin; refine wpList_append_none rfl _ _ 22 rfl w.heap.size 3 i0 1 Try.underlying22 hi _ 0 _ [] rfl hown rfl ?_)
    go_wp2_with fail
    go_ret
    exact ⟨_, _, rfl, hown, (by repeat (first | exact Below.refl _ _ | assumption | refine Below.alloc ?_ (by first | exact Nat.le_refl _ | (simp only [World.size_alloc, World.size_setCell, World.size_drew]; omega) | omega) _ | refine Below.setCell ?_ (by first | exact Nat.le_refl _ | (simp only [World.size_alloc, World.size_setCell, World.size_drew]; omega) | omega) _ | refine Below.drew ?_))⟩
  | some ad =>
    have hx1 := hx.alloc (.cells #[] 3)
    go_enter Try.func94, Try.ntmps94
    go_wp2_with (at_builtin; refine wpList_append_own _ rfl _ _ 22 rfl w.heap.size 3 i0 (.int .i64 0) 1 8 Try.underlying22 hi hz0 hz1 hz2 rfl (by decide) _ 0 [] rfl hown ad xs.length cap (xs.map (Value.int .i64)) rfl (by simp) ?c1 ?c2 ?c3 ?c4 ?c5 ?_)
    case c1 => exact rd_news hx1
    case c2 => exact ints_one xs
    case c3 => unfold maxLen; omega
    case c4 => omega
    case c5 => simp
    · intro v' w1 hown' hgrow _
      try simp only [Nat.zero_add, List.nil_append] at hown'
      have hb : Below w.heap.size w w1 := ((Below.refl _ _).alloc (Nat.le_refl _) _).grown hgrow (by simp) (fun b e => by simp [Value.ownBlock] at e; omega)
      obtain ⟨a', cap', rfl⟩ := OwnI.form (xs := xs) hown'
      have HO := Lib.hid hown'
      clear hown' hgrow hown
      go_wp2_with fail
      go_ret
      exact ⟨a', cap', rfl, HO.out, hb⟩

/-- one number more at the end of a row that is owned -/
theorem push_at {ops : Array Oper} {rest : List Oper} {o : Oper} {a : Act} {Q : Exit → Act → World → Prop} (hgd : o.guard = none) (s x : Operand)
    (ho : o.op = .call { callee := .builtin .append, args := #[s, x], argTypes := #[22, 22] }) {wr : World} {B : Nat} {v : Value} {ys : List Int} {z : Int}
    (hs : a.eval s = v) (hown : OwnI wr B v ys) (hx : a.eval x = .slice (some ⟨wr.heap.size, 0, none⟩) 1 1) (h63 : ys.length ≤ 1048576) (hB : B ≤ wr.heap.size)
    (h : ∀ v' w', OwnI w' B v' (ys ++ [z]) → wr.grownBy w' v.ownBlock → (v'.ownBlock = v.ownBlock ∨ v'.ownBlock = some (wr.heap.size + 1)) → wpList Try.prog ops Q rest (a.put o.dst v') w') :
    wpList Try.prog ops Q (o :: rest) a (wr.alloc (.cells #[.int .i64 z] 3)) := by
  obtain ⟨i0, hi, hz0, hz1, hz2⟩ := info_parts infoInt
  refine wpList_append_own_at _ hgd s x 22 ho B 3 i0 (.int .i64 0) 1 8 Try.underlying22 hi hz0 hz1 hz2 rfl (by decide) v ys.length (ys.map (Value.int .i64)) hs (hown.alloc _) ⟨wr.heap.size, 0, none⟩ 1 1 [.int .i64 z] hx rfl (cell_one_new _ _ _) (by intro u hu; simp at hu; subst hu; rfl) (by unfold maxLen; omega) (by omega) (by simp; omega) ?_
  intro v' w' ho2 hg _ hat
  refine h v' w' ?_ (grown_alloc_set hg) (by simpa using hat)
  unfold OwnI
  rw [List.length_append, List.map_append]
  exact ho2
/-- the same at a step of a region that draws its order; the new number lies somewhere -/
theorem step_push {ops : Array Oper} {o : Oper} {a : Act} {K : Act → World → Prop} {Q : Exit → Act → World → Prop} {E : Prop} (hgd : o.guard = none) (s x : Operand)
    (ho : o.op = .call { callee := .builtin .append, args := #[s, x], argTypes := #[22, 22] }) {W : World} {B g n : Nat} {v : Value} {ys : List Int} {z : Int}
    (hs : a.eval s = v) (hx : a.eval x = .slice (some ⟨g, 0, none⟩) 1 1) (hown : OwnI W B v ys) (hn : ys.length = n) (hz : W.cell? ⟨g, 0, none⟩ = some (.int .i64 z)) (h63 : n ≤ 1048576) (hB : B ≤ W.heap.size)
    (h : ∀ g' cap w', OwnI w' B (.slice (some ⟨g', 0, none⟩) (n + 1) cap) (ys ++ [z]) → W.grownBy w' v.ownBlock → (v.ownBlock = some g' ∨ g' = W.heap.size) → K (a.put o.dst (.slice (some ⟨g', 0, none⟩) (n + 1) cap)) w') :
    if Region.wanted o (yielded ops a.tmps) = true then Oper.wp Try.prog o a W K Q else E := by
  subst hn
  obtain ⟨i0, hi, hz0, hz1, hz2⟩ := info_parts infoInt
  refine step_append_lies W hgd s x 22 ho B 3 i0 (.int .i64 0) 1 8 Try.underlying22 hi hz0 hz1 hz2 rfl (by decide) v ys.length (ys.map (Value.int .i64)) hs hown ⟨g, 0, none⟩ 1 1 [.int .i64 z] hx rfl ?_ (by intro u hu; simp at hu; subst hu; rfl) (by omega) (by unfold maxLen; omega) (by omega) hB W.heap.size rfl ?_
  · intro j u hj
    obtain ⟨hlt, e⟩ := List.getElem?_eq_some_iff.1 hj
    have h0 : j = 0 := by simpa using hlt
    subst h0
    simp at e
    subst e
    rw [Addr.add_lit]; simpa using hz
  · intro g' cap w' ho2 hg hat _
    refine h g' cap w' ?_ hg hat
    unfold OwnI
    rw [List.length_append, List.map_append]
    exact ho2
theorem news_after {w w3 : World} {x : Int} {m : Nat} (h : Below ((w.drewN m).alloc (.cells #[.int .i64 x] 3)).heap.size ((w.drewN m).alloc (.cells #[.int .i64 x] 3)) w3) : w3.cell? ⟨w.heap.size, 0, none⟩ = some (.int .i64 x) :=
  (h.cell (p := ⟨w.heap.size, 0, none⟩) (show w.heap.size < ((w.drewN m).alloc _).heap.size by rw [World.size_alloc]; exact Nat.lt_succ_of_le (Joins.below_draws w.heap.size w m).size)).trans ((show ∀ W : World, (W.alloc (.cells #[.int .i64 x] 3)).cell? ⟨W.heap.size, 0, none⟩ = some (.int .i64 x) from fun W => by simp) (w.drewN m))
theorem below_after {w w3 : World} {m : Nat} {o : Obj} (h : Below ((w.drewN m).alloc o).heap.size ((w.drewN m).alloc o) w3) : Below w.heap.size w w3 :=
  Below.trans ((Joins.below_draws w.heap.size w m).alloc (Joins.below_draws w.heap.size w m).size _) (h.mono (Nat.le_trans (Joins.below_draws w.heap.size w m).size (by simp)))
theorem below_drew {w w3 : World} {m : Nat} (h : Below (w.drewN m).heap.size (w.drewN m) w3) : Below w.heap.size w w3 :=
  Below.trans (Joins.below_draws w.heap.size w m) (h.mono (Joins.below_draws w.heap.size w m).size)
/-- two values that own no block together -/
def SepV (v u : Value) : Prop := ∀ c, v.ownBlock = some c → u.ownBlock ≠ some c
theorem SepV.symm {v u : Value} (h : SepV v u) : SepV u v := fun c e e2 => h c e2 e
/-- the first of two rows has grown -/
theorem SepV.grow {w : World} {B : Nat} {v v' u : Value} {ys : List Int} {m : Nat} (h : SepV v u) (hu : OwnI w B u ys) (hm : w.heap.size ≤ m) (hat : v'.ownBlock = v.ownBlock ∨ v'.ownBlock = some m) : SepV v' u := by
  intro c e e2
  rcases hat with h1 | h1
  · exact h c (h1 ▸ e) e2
  · rw [h1] at e
    have := (hu.lt c e2).2
    simp only [Option.some.injEq] at e
    omega

set_option maxRecDepth 100000 in
set_option maxHeartbeats 4000000 in
theorem orFind_any (n : Int) (a : Option Addr) (xs : List Int) (cap : Nat) (m : Int) (b : Option Addr) (ys : List Int) (cap2 : Nat) (B : Nat) (hp : RelP n xs) (hq : RelP m ys) :
    ∀ (d : Nat) (l : List Int) (c : Option Addr) (cap3 : Nat) (w : World), l.length + d = ys.length → LtL xs.length l → B ≤ w.heap.size → Rd w a xs → Rd w b ys → OwnI w B (.slice c l.length cap3) l →
    Calls Try.prog 48 #[.agg #[.int .i64 n, .slice a xs.length cap], .agg #[.int .i64 m, .slice b ys.length cap2], .slice c l.length cap3] w (FsPost w B (fpS xs ys d l)) := by
  have x10 : xs.length ≤ 10 := by have := hp.len; have := hp.n1; omega
  have y10 : ys.length ≤ 10 := by have := hq.len; have := hq.n1; omega
  obtain rfl : n = (xs.length : Int) := hp.len.symm
  obtain rfl : m = (ys.length : Int) := hq.len.symm
  intro d
  induction d with
  | zero =>
    intro l c cap3 w hld hlt hBw hx hy ho
    have hz : ((l.length : Int) == (ys.length : Int)) = true := by simp; omega
    have HO := Lib.hid ho
    have hb0 : Below w.heap.size w ((w.alloc (.cells #[.int .i64 (xs.length : Int), .slice a xs.length cap] 28)).alloc (.cells #[.int .i64 (ys.length : Int), .slice b ys.length cap2] 28)) := (by repeat (first | exact Below.refl _ _ | assumption | refine Below.alloc ?_ (by first | exact Nat.le_refl _ | (simp only [World.size_alloc, World.size_setCell, World.size_drew]; omega) | omega) _ | refine Below.setCell ?_ (by first | exact Nat.le_refl _ | (simp only [World.size_alloc, World.size_setCell, World.size_drew]; omega) | omega) _ | refine Below.drew ?_))
    clear hld ho
    go_enter Try.func48, Try.ntmps48
    go_wp2_with fail
    refine bodyPost_ret (v := .tuple #[.slice c l.length cap3, .bool true]) (by simp [results, Try.results48, go_sem]) rfl ?_
    exact ⟨hb0, c, cap3, rfl, HO.out.below hb0 (Nat.le_refl _)⟩
  | succ d ih =>
    intro l c cap3 w hld hlt hBw hx hy ho
    have HIH := Lib.hid ih
    have HLD := Lib.hid hld
    have HLT := Lib.hid hlt
    have HO := Lib.hid ho
    have HX := Lib.hid hx
    have HY := Lib.hid hy
    have HBW : Hid (B ≤ w.heap.size) := hBw
    obtain ⟨i0, hi, hz0, hz1, hz2⟩ := info_parts infoInt
    have hz : ((l.length : Int) == (ys.length : Int)) = false := by simp; omega
    have hl9 : l.length ≤ 9 := by omega
    have hly : l.length < ys.length := by omega
    obtain ⟨A1, B1, bw1⟩ := boxes2 (w := w) (u := .int .i64 (xs.length : Int)) (v := .slice a xs.length cap) (u2 := .int .i64 (ys.length : Int)) (v2 := .slice b ys.length cap2) (Below.refl _ _)
    obtain ⟨G, hG⟩ : ∃ G : Nat → Option (List Int), G = fun i : Nat => if !memB l (i : Int) && ptW xs ys (l ++ [(i : Int)]) then fpS xs ys d (l ++ [(i : Int)]) else none := ⟨_, rfl⟩
    have HG : Hid (∀ i : Nat, G i = if !memB l (i : Int) && ptW xs ys (l ++ [(i : Int)]) then fpS xs ys d (l ++ [(i : Int)]) else none) := fun i => by rw [hG]
    have HR : Hid (fpS xs ys (d+1) l = find1 G xs.length) := by rw [Hid, fpS, hG]
    clear ih hld hlt ho hx hy hG
    go_enter Try.func48, Try.ntmps48
    go_wp2_with fail
    obtain ⟨w1, hw1⟩ : ∃ x : World, x = (w.alloc (.cells #[.int .i64 (xs.length : Int), .slice a xs.length cap] 28)).alloc (.cells #[.int .i64 (ys.length : Int), .slice b ys.length cap2] 28) := ⟨_, rfl⟩
    rw [← hw1] at A1 B1 bw1 ⊢
    clear hw1
    go_loopw [8] (fun i' wr => ∃ k : Nat, k ≤ xs.length ∧ i' = .int .i64 k ∧ Below w.heap.size w wr ∧ Box2 wr w.heap.size (.int .i64 (xs.length : Int)) (.slice a xs.length cap) ∧ Box2 wr (w.heap.size + 1) (.int .i64 (ys.length : Int)) (.slice b ys.length cap2) ∧ (∀ j, j < k → G j = none)) (fun i _ => xs.length - (intOf i).toNat)
    case atStart => exact ⟨0, Nat.zero_le _, rfl, bw1, A1, B1, fun j hj => by omega⟩
    case round =>
      clear A1 B1 bw1
      obtain ⟨k, hk, rfl, hb, hA, hB, hno⟩ := hrel
      have HNO := Lib.hid hno
      have HBB := Lib.hid hb
      have HA := Lib.hid hA
      have HB := Lib.hid hB
      have ⟨zA, cA, dA⟩ := hA
      have ⟨zB, cB, dB⟩ := hB
      have hbs := hb.size
      clear hno hb hA hB
      by_cases hkx : k < xs.length
      · have HF := Lib.hid (orFits_any (xs.length : Int) a xs cap (ys.length : Int) b ys cap2 c l cap3 k _ (HX.out.below HBB.out) hp (HY.out.below HBB.out) hq (HO.out.rd.below HBB.out) hly HLT.out hkx)
        have HGK := Lib.hid (HG.out k)
        have HLS := Lib.hid (HLT.out.snoc hkx)
        obtain ⟨P, hP⟩ : ∃ P, P = l ++ [(k : Int)] := ⟨_, rfl⟩
        have HPL : Hid (P.length = l.length + 1) := by rw [hP]; simp [Hid]
        have HPE := Lib.hid hP
        rw [← hP] at HF HGK HLS
        clear hP
        cases hf : (!memB l (k : Int) && ptW xs ys P)
        · rw [hf] at HF HGK
          have HGN : Hid (G k = none) := by rw [Hid, HGK.out]; rfl
          go_wp2_with fail
          refine HF.out.mono ?_
          rintro e w2 ⟨rfl, hb2⟩
          have b2 := HBB.out.trans (hb2.mono hbs)
          have A2 := HA.out.below hb2
          have B2 := HB.out.below hb2
          clear hb2 cA dA cB dB
          go_wp2_with fail
          go_roundw
          case rel =>
            refine ⟨k + 1, by omega, by go_num, b2, A2, B2, fun j hj => ?_⟩
            by_cases e : j = k
            · rw [e]; exact HGN.out
            · exact HNO.out j (by omega)
          case measure => simp [intOf]; omega
        · rw [hf] at HF HGK
          have HGN : Hid (G k = fpS xs ys d P) := by rw [Hid, HGK.out]; rfl
          go_wp2_with fail
          refine HF.out.mono ?_
          rintro e w2 ⟨rfl, hb2⟩
          have b2 := HBB.out.trans (hb2.mono hbs)
          have A2 := HA.out.below hb2
          have B2 := HB.out.below hb2
          have b2s := b2.size
          have HA2 := Lib.hid A2
          have HB2 := Lib.hid B2
          have H2 := Lib.hid b2
          have hoq := Lib.hid (HO.out.rd.below b2)
          have ⟨zA2, cA2, dA2⟩ := A2
          have ⟨zB2, cB2, dB2⟩ := B2
          have HIH2 : Hid (∀ b' cap2' w', B ≤ w'.heap.size → Below w.heap.size w w' → OwnI w' B (.slice b' (l.length + 1) cap2') P → Calls Try.prog 48 #[.agg #[.int .i64 (xs.length : Int), .slice a xs.length cap], .agg #[.int .i64 (ys.length : Int), .slice b ys.length cap2], .slice b' (l.length + 1) cap2'] w' (FsPost w' B (G k))) := fun b' cap2' w' h1 h2 h3 => by
            have h := HIH.out P b' cap2' w' (by have := HLD.out; have := HPL.out; omega) HLS.out h1 (HX.out.below h2) (HY.out.below h2)
            rw [← HGN.out, HPL.out] at h
            exact h h3
          clear hb2 cA dA cB dB A2 B2 b2
          obtain ⟨r, hr⟩ : ∃ r, G k = r := ⟨_, rfl⟩
          rw [hr] at HIH2
          have HRR := Lib.hid hr
          clear hr
          go_wp2_with fail
          go_region_law (first
            | (have _g := ho5; go_simp; go_at_call 48; refine (HIH2.out _ _ _ (by have := HBW.out; have := b5.size; simp; omega) (by first | exact H2.out.trans (b5.mono b2s) | exact (H2.out.trans (b5.mono b2s)).drew) (by rw [HPE.out]; first | exact o5 | exact o5.below (Below.refl _ _).drew (Nat.le_refl _))).mono ?_; rintro e w6 ⟨hb6, a6, c6, rfl, ho6⟩)
            | (have _g := NW; refine step_push (by rfl) _ _ (by rfl) (by rfl) (by rfl) (by first | exact ho3 | exact ho3.below (Joins.below_draws _ _ _) (Nat.le_refl _)) (by rfl) (by exact NW) (by omega) (by exact ht3.size) ?_; intro g5 c5 w5 ho5 hg5 hat5; have b5 : Below w2.heap.size w2 w5 := ht3.trans (below_of_grown hg5 (fun c e => (ho3.lt c e).1) ht3.size); have o5 := ho5.mono (B' := B) (by have := HBW.out; omega); have ⟨zA5, cA5, dA5⟩ := HA2.out.below b5; have ⟨zB5, cB5, dB5⟩ := HB2.out.below b5)
            | (have _g := ho3; refine step_push (by rfl) _ _ (by rfl) (by rfl) (by rfl) (by exact ho3.alloc _) (by rfl) (by simp; rfl) (by omega) (by have := ht3.size; simp; omega) ?_; intro g5 c5 w5 ho5 hg5 hat5; have b5 : Below w2.heap.size w2 w5 := ht3.trans (below_of_grown (grown_alloc_set hg5) (fun c e => (ho3.lt c e).1) ht3.size); have o5 := ho5.mono (B' := B) (by have := HBW.out; omega); have ⟨zA5, cA5, dA5⟩ := HA2.out.below b5; have ⟨zB5, cB5, dB5⟩ := HB2.out.below b5)
            | (go_simp; go_at_call 94; refine (l1Own_any _ l _ _ (by first | exact hoq.out.below (Joins.below_draws _ _ _) | exact (hoq.out.below (Joins.below_draws _ _ _)).alloc _) (by omega)).mono ?_; rintro e w3 ⟨a3, c3, rfl, ho3', hb3⟩; have ht3 : Below w2.heap.size w2 w3 := (by first | exact below_drew hb3 | exact below_after hb3); have ho3 := ho3'.mono (B' := w2.heap.size) (by simp); have ⟨zA3, cA3, dA3⟩ := HA2.out.below ht3; have ⟨zB3, cB3, dB3⟩ := HB2.out.below ht3; (try have NW := news_after hb3); clear ho3' hb3))
          all_goals
            have ht6 : Below w2.heap.size w2 w6 := b5.trans ((by first | exact below_drew hb6 | exact hb6 : Below w5.heap.size w5 w6).mono b5.size)
            cases r with
            | none =>
              simp only [Option.getD_none, Option.isSome_none, List.length_nil]
              go_wp2_with fail
              go_roundw
              case rel =>
                refine ⟨k + 1, by omega, by go_num, H2.out.trans (ht6.mono b2s), HA2.out.below ht6, HB2.out.below ht6, fun j hj => ?_⟩
                by_cases e : j = k
                · rw [e]; exact HRR.out
                · exact HNO.out j (by omega)
              case measure => simp [intOf]; omega
            | some zs =>
              have HRES : Hid (fpS xs ys (d+1) l = some zs) := by rw [Hid, HR.out]; exact find1_some hkx HRR.out HNO.out
              simp only [Option.getD_some, Option.isSome_some] at ho6 ⊢
              go_wp2_with fail
              refine bodyPost_ret (v := .tuple #[.slice a6 zs.length c6, .bool true]) (by simp [results, Try.results48, go_sem]) rfl ?_
              rw [HRES.out]
              exact ⟨H2.out.trans (ht6.mono b2s), a6, c6, rfl, ho6⟩
      · have HRR : Hid (fpS xs ys (d+1) l = none) := by rw [Hid, HR.out]; exact find1_none (fun j hj => HNO.out j (by omega))
        go_wp2_with fail
        refine bodyPost_ret (v := .tuple #[.slice none 0 0, .bool false]) (by simp [results, Try.results48, go_sem]) rfl ?_
        rw [HRR.out]
        exact ⟨HBB.out, none, 0, rfl, OwnI.nil _ _⟩

theorem l1In_any (n lo hi : Int) (w : World) :
    Calls Try.prog 91 #[.int .i64 n, .int .i64 lo, .int .i64 hi] w fun e w' => e = .returned (.bool (inB n lo hi)) ∧ w = w' := by
  go_enter Try.func91, Try.ntmps91
  go_wp2
  all_goals (go_ret; exact ⟨ret_bool (by simp [inB]; try omega), rfl⟩)
theorem l1In_is {n lo hi : Int} {b : Bool} (h : inB n lo hi = b) (w : World) (m : Nat) :
    Calls Try.prog 91 #[.int .i64 n, .int .i64 lo, .int .i64 hi] (w.drewN m) fun e w' => e = .returned (.bool b) ∧ ∃ k, w' = w.drewN k :=
  Calls.quiet_of_same ((l1In_any n lo hi (w.drewN m)).mono (fun e w' hh => ⟨by rw [← h]; exact hh.1, hh.2.symm⟩))

theorem l1All_any (a : Option Addr) (xs : List Int) (cap : Nat) (lo hi : Int) (w : World) (hx : Rd w a xs) :
    Calls Try.prog 92 #[.slice a xs.length cap, .int .i64 lo, .int .i64 hi] w fun e w' => e = .returned (.bool (allB xs lo hi)) ∧ w = w' := by
  have hlen := hx.len
  go_enter Try.func92, Try.ntmps92
  go_wp2_with fail
  go_loop [11] (fun i => ∃ k : Nat, k ≤ xs.length ∧ i = .int .i64 k ∧ allB (xs.take k) lo hi = true) (fun i => xs.length - (intOf i).toNat)
  case atStart => exact ⟨0, Nat.zero_le _, rfl, rfl⟩
  case round =>
    obtain ⟨k, hk, rfl, hall⟩ := hrel
    by_cases hlt : k < xs.length
    · obtain ⟨b, off, rfl, hbl, hc⟩ := hx.cell k hlt
      cases hin : inB (nth xs k) lo hi
      · have hf := Lib.hid (allB_false hlt hin)
        go_wp2_with (go_at_call 91; refine (l1In_any _ _ _ _).mono ?_; rintro e w' ⟨rfl, rfl⟩)
        go_ret
        exact ⟨ret_bool hf.out.symm, rfl⟩
      · go_wp2_with (go_at_call 91; refine (l1In_any _ _ _ _).mono ?_; rintro e w' ⟨rfl, rfl⟩)
        go_round
        case rel => exact ⟨k + 1, by omega, by go_num, by rw [allB_take _ _ _ _ hlt, hall, hin]; rfl⟩
        case measure => simp [intOf]; omega
    · go_wp2_with fail
      go_ret
      exact ⟨ret_bool (by rw [← hall, List.take_of_length_le (by omega)]), rfl⟩
theorem l1All_is {a : Option Addr} {xs : List Int} {cap : Nat} {lo hi : Int} {b : Bool} {w : World} (hx : Rd w a xs) (h : allB xs lo hi = b) (m : Nat) :
    Calls Try.prog 92 #[.slice a xs.length cap, .int .i64 lo, .int .i64 hi] (w.drewN m) fun e w' => e = .returned (.bool b) ∧ ∃ k, w' = w.drewN k :=
  Calls.quiet_of_same ((l1All_any a xs cap lo hi (w.drewN m) (hx.below (Joins.below_draws _ _ _))).mono (fun e w' hh => ⟨by rw [← h]; exact hh.1, hh.2.symm⟩))

theorem orRelation_any (n : Int) (a : Option Addr) (xs : List Int) (cap : Nat) (w : World) (hx : Rd w a xs) :
    Calls Try.prog 47 #[.agg #[.int .i64 n, .slice a xs.length cap]] w fun e w' => e = .returned (.bool (relB n xs)) ∧ Below w.heap.size w w' := by
  have hx1 := hx.alloc (.cells #[.int .i64 n, .slice a xs.length cap] 28)
  cases h1 : inB n 0 10
  · have HR : Hid (relB n xs = false) := by simp [Hid, relB, h1]
    go_enter Try.func47, Try.ntmps47
    go_wp2_with fail
    go_quiet ((go_at_call 91; exact l1In_is h1 _ _))
    go_wp2_with fail
    go_ret
    exact ⟨ret_bool HR.out.symm, (Below.refl _ _).alloc (Nat.le_refl _) _ |>.trans (Joins.below_draws _ _ _)⟩
  · have hn := inB_iff.1 h1
    cases h2 : ((xs.length : Int) == n)
    · have HR : Hid (relB n xs = false) := by
        have : ¬ (xs.length : Int) = n := by simpa using h2
        simp [Hid, relB, h1, this]
      go_enter Try.func47, Try.ntmps47
      go_wp2_with fail
      go_quiet ((go_at_call 91; exact l1In_is h1 _ _))
      go_wp2_with fail
      go_ret
      exact ⟨ret_bool HR.out.symm, (Below.refl _ _).alloc (Nat.le_refl _) _ |>.trans (Joins.below_draws _ _ _)⟩
    · cases h3 : allB xs 0 (wrap64 (wrap64 (2 ^ n.toNat) - 1))
      all_goals
        have HR : Hid (relB n xs = allB xs 0 (wrap64 (wrap64 (2 ^ n.toNat) - 1))) := by
          have : (xs.length : Int) = n := by simpa using h2
          simp only [Hid, relB, h1, this, full_eq hn.1 hn.2]
          simp
        have H3 := Lib.hid h3
        clear h3
        go_enter Try.func47, Try.ntmps47
        go_wp2_with fail
        go_quiet ((first | (go_at_call 91; exact l1In_is h1 _ _) | (go_at_call 92; exact l1All_is hx1 H3.out _)))
        go_wp2_with fail
        go_ret
        exact ⟨ret_bool (by rw [HR.out, H3.out]), (Below.refl _ _).alloc (Nat.le_refl _) _ |>.trans (Joins.below_draws _ _ _)⟩

set_option maxRecDepth 100000 in
set_option maxHeartbeats 1000000 in
theorem sFind_any (n : Int) (a : Option Addr) (xs : List Int) (cap : Nat) (m : Int) (b : Option Addr) (ys : List Int) (cap2 : Nat) (w : World) (hn : -9223372036854775808 ≤ n ∧ n ≤ 9223372036854775807) (hx : Rd w a xs) (hm : -9223372036854775808 ≤ m ∧ m ≤ 9223372036854775807) (hy : Rd w b ys) :
    Calls Try.prog 13 #[.agg #[.int .i64 n, .slice a xs.length cap], .agg #[.int .i64 m, .slice b ys.length cap2]] w fun e w' => ∃ a' cap', e = .returned (.tuple #[.slice a' (fpV n xs m ys).length cap', .bool (fpB n xs m ys)]) ∧ OwnI w' w.heap.size (.slice a' (fpV n xs m ys).length cap') (fpV n xs m ys) ∧ Below w.heap.size w w' := by
  have hx1 := (hx.alloc (.cells #[.int .i64 n, .slice a xs.length cap] 28)).alloc (.cells #[.int .i64 m, .slice b ys.length cap2] 28)
  have HN := Lib.hid hn
  have HM := Lib.hid hm
  clear hn hm
  go_enter Try.func13, Try.ntmps13
  go_wp2_with fail
  refine (orRelation_any _ _ _ _ _ hx1).mono ?_
  rintro e w1 ⟨rfl, hb1⟩
  obtain ⟨A1, B1, bw1⟩ := boxes2 hb1
  clear hb1 hx1
  cases hg : relB n xs
  · have HNO := Lib.hid (fp_no (n := n) (xs := xs) (m := m) (ys := ys) (by simp [fpOk, hg]))
    clear hg
    go_wp2_with fail
    refine bodyPost_ret (v := .tuple #[.slice none 0 0, .bool false]) (by simp [results, Try.results13, go_sem]) rfl ?_
    rw [HNO.out.1, HNO.out.2]
    exact ⟨none, 0, rfl, OwnI.nil _ _, bw1⟩
  · have hp := relB_p hg
    have HG := Lib.hid hg
    clear hg
    have ⟨zB, cB, dB⟩ := B1
    go_wp2_with fail
    refine (orRelation_any _ _ _ _ _ (hy.below bw1)).mono ?_
    rintro e w2 ⟨rfl, hb2⟩
    have bw2 : Below w.heap.size w w2 := bw1.trans (hb2.mono bw1.size)
    have A2 := A1.below hb2
    have B2 := B1.below hb2
    clear A1 B1 cB dB zB hb2 bw1
    have ⟨zA, cA, dA⟩ := A2
    have ⟨zB, cB, dB⟩ := B2
    cases hh : relB m ys
    · have HNO := Lib.hid (fp_no (n := n) (xs := xs) (m := m) (ys := ys) (by simp [fpOk, hh]))
      clear hh
      go_wp2_with fail
      refine bodyPost_ret (v := .tuple #[.slice none 0 0, .bool false]) (by simp [results, Try.results13, go_sem]) rfl ?_
      rw [HNO.out.1, HNO.out.2]
      exact ⟨none, 0, rfl, OwnI.nil _ _, bw2⟩
    · have hq := relB_p hh
      have HH := Lib.hid hh
      clear hh
      by_cases h6 : m ≤ 6
      · have HY := Lib.hid (fp_yes (n := n) (xs := xs) (m := m) (ys := ys) (by simp [fpOk, HG.out, HH.out, h6]))
        have bs2 := bw2.size
        have HC := Lib.hid (orFind_any n a xs cap m b ys cap2 w2.heap.size hp hq ys.length [] none 0 w2 (by simp) (fun i hi => by simp at hi) (Nat.le_refl _) (hx.below bw2) (hy.below bw2) (OwnI.nil _ _))
        go_wp2_with fail
        refine HC.out.mono ?_
        rintro e w3 ⟨hb3, a3, c3, rfl, ho3⟩
        go_wp2_with fail
        rw [HY.out.1, HY.out.2]
        refine bodyPost_ret (v := .tuple #[.slice a3 ((fpS xs ys ys.length []).getD []).length c3, .bool (fpS xs ys ys.length []).isSome]) (by simp [results, Try.results13, go_sem]) rfl ?_
        exact ⟨a3, c3, rfl, ho3.mono bs2, bw2.trans (hb3.mono bs2)⟩
      · have HNO := Lib.hid (fp_no (n := n) (xs := xs) (m := m) (ys := ys) (by simp [fpOk, h6]))
        clear zA zB
        go_wp2_with fail
        refine bodyPost_ret (v := .tuple #[.slice none 0 0, .bool false]) (by simp [results, Try.results13, go_sem]) rfl ?_
        rw [HNO.out.1, HNO.out.2]
        exact ⟨none, 0, rfl, OwnI.nil _ _, bw2⟩

theorem hasElement_any (s i : Int) (w : World) (h0 : 0 ≤ s) (h1 : s ≤ 9223372036854775807) (hi : 0 ≤ i) :
    Calls Try.prog 56 #[.int .i64 s, .int .i64 i] w fun e w' => e = .returned (.bool (hasB s i)) ∧ w = w' := by
  have H := Lib.hid (has_and h0 h1 hi)
  go_enter Try.func56, Try.ntmps56
  go_wp2
  go_ret
  exact ⟨ret_bool H.out, rfl⟩

theorem hasElement_is {s i : Int} {b : Bool} (h0 : 0 ≤ s) (h1 : s ≤ 9223372036854775807) (hi : 0 ≤ i) (h : hasB s i = b) (w : World) (m : Nat) :
    Calls Try.prog 56 #[.int .i64 s, .int .i64 i] (w.drewN m) fun e w' => e = .returned (.bool b) ∧ ∃ k, w' = w.drewN k :=
  Calls.quiet_of_same ((hasElement_any s i (w.drewN m) h0 h1 hi).mono (fun e w' hh => ⟨by rw [← h]; exact hh.1, hh.2.symm⟩))

set_option maxRecDepth 100000 in
set_option maxHeartbeats 2000000 in
theorem fits_any (n : Int) (a : Option Addr) (xs : List Int) (cap : Nat) (m : Int) (b : Option Addr) (ys : List Int) (cap2 : Nat) (c : Option Addr) (L : List Int) (cap3 : Nat) (w : World) (hx : Rd w a xs) (hp : RelP n xs) (hy : Rd w b ys) (hq : RelP m ys) (hz : Rd w c L) (hL0 : 0 < L.length) (hL1 : L.length ≤ ys.length) (hL : LtL xs.length L) :
    Calls Try.prog 97 #[.agg #[.int .i64 n, .slice a xs.length cap], .agg #[.int .i64 m, .slice b ys.length cap2], .slice c L.length cap3] w fun e w' => e = .returned (.bool (ptW xs ys L)) ∧ Below w.heap.size w w' := by
  have y10 : ys.length ≤ 10 := by have := hq.len; have := hq.n1; omega
  obtain ⟨A1, B1, bw1⟩ := boxes2 (w := w) (u := .int .i64 n) (v := .slice a xs.length cap) (u2 := .int .i64 m) (v2 := .slice b ys.length cap2) (Below.refl _ _)
  obtain ⟨e, he⟩ : ∃ e, e = L.length - 1 := ⟨_, rfl⟩
  have hel : e < L.length := by omega
  have HE := Lib.hid he
  have hsub : (L.length : Int) - 1 = (e : Int) := by omega
  obtain ⟨q, hqe⟩ : ∃ q : Nat, nth L e = (q : Int) := ⟨(nth L e).toNat, by have := hL e hel; omega⟩
  have hqx : q < xs.length := by have := hL e hel; omega
  have HQ := Lib.hid hqe
  have HZ := Lib.hid hz
  clear he hqe hz
  go_enter Try.func97, Try.ntmps97
  go_wp2_with fail
  obtain ⟨w1, hw1⟩ : ∃ x : World, x = (w.alloc (.cells #[.int .i64 n, .slice a xs.length cap] 28)).alloc (.cells #[.int .i64 m, .slice b ys.length cap2] 28) := ⟨_, rfl⟩
  rw [← hw1] at A1 B1 bw1 ⊢
  clear hw1
  go_loopw [15] (fun i wr => ∃ k : Nat, k ≤ L.length ∧ i = .int .i64 k ∧ Below w.heap.size w wr ∧ Box2 wr w.heap.size (.int .i64 n) (.slice a xs.length cap) ∧ Box2 wr (w.heap.size + 1) (.int .i64 m) (.slice b ys.length cap2) ∧ (∀ j, j < k → ptG xs ys L j = true)) (fun i _ => L.length - (intOf i).toNat)
  case atStart => exact ⟨0, Nat.zero_le _, rfl, bw1, A1, B1, fun j hj => by omega⟩
  case round =>
    clear A1 B1 bw1
    obtain ⟨k, hk, rfl, hb, hA, hB, hall⟩ := hrel
    have HA := Lib.hid hall
    clear hall
    by_cases hlt : k < L.length
    · obtain ⟨b3, off3, rfl, hbl3, hck⟩ := (HZ.out.below hb).cell k hlt
      obtain ⟨b4, off4, e4, hbl4, hce⟩ := (HZ.out.below hb).cell e hel
      simp only [Option.some.injEq, Addr.mk.injEq, and_true] at e4
      obtain ⟨rfl, rfl⟩ := e4
      obtain ⟨p, hpe⟩ : ∃ p : Nat, nth L k = (p : Int) := ⟨(nth L k).toNat, by have := hL k hlt; omega⟩
      have hpx : p < xs.length := by have := hL k hlt; omega
      have HG : Hid (ptG xs ys L k = ((hasB (nth xs p) (q : Int) == hasB (nth ys k) (e : Int)) && (hasB (nth xs q) (p : Int) == hasB (nth ys e) (k : Int)))) := by
        rw [Hid, ptG, ← HE.out, HQ.out, hpe, Int.toNat_natCast, Int.toNat_natCast]
      rw [hpe] at hck
      rw [HQ.out] at hce
      have hky : k < ys.length := by omega
      have hey : e < ys.length := by omega
      obtain ⟨b1, off1, rfl, hbl1, hcp⟩ := (hx.below hb).cell p hpx
      obtain ⟨b5, off5, e5, hbl5, hcq⟩ := (hx.below hb).cell q hqx
      simp only [Option.some.injEq, Addr.mk.injEq, and_true] at e5
      obtain ⟨rfl, rfl⟩ := e5
      obtain ⟨b2, off2, rfl, hbl2, hyk⟩ := (hy.below hb).cell k hky
      obtain ⟨b6, off6, e6, hbl6, hye⟩ := (hy.below hb).cell e hey
      simp only [Option.some.injEq, Addr.mk.injEq, and_true] at e6
      obtain ⟨rfl, rfl⟩ := e6
      have ⟨r1, r2⟩ := rel_at hp hpx
      have ⟨r3, r4⟩ := rel_at hp hqx
      have ⟨r5, r6⟩ := rel_at hq hky
      have ⟨r7, r8⟩ := rel_at hq hey
      have n1 : (0 : Int) ≤ (p : Int) := by omega
      have n2 : (0 : Int) ≤ (q : Int) := by omega
      have n3 : (0 : Int) ≤ (k : Int) := by omega
      have n4 : (0 : Int) ≤ (e : Int) := by omega
      have ⟨zA, cA, dA⟩ := hA
      have ⟨zB, cB, dB⟩ := hB
      clear hpe
      have HAA := Lib.hid hA
      have HBB := Lib.hid hB
      clear hA hB
      cases hd1 : (hasB (nth xs p) (q : Int) == hasB (nth ys k) (e : Int))
      · have HN := Lib.hid (ptW_no hlt (show ptG xs ys L k = false by rw [HG.out, hd1]; rfl))
        go_wp2_with fail
        go_quiet ((go_at_call 56; exact hasElement_is (by assumption) (by assumption) (by assumption) rfl _ _))
        go_wp2_with fail
        go_ret
        exact ⟨ret_bool HN.out.symm, hb.trans ((Joins.below_draws _ _ _).mono hb.size)⟩
      · cases hd2 : (hasB (nth xs q) (p : Int) == hasB (nth ys e) (k : Int))
        · have HN := Lib.hid (ptW_no hlt (show ptG xs ys L k = false by rw [HG.out, hd1, hd2]; rfl))
          go_wp2_with fail
          go_quiet ((go_at_call 56; exact hasElement_is (by assumption) (by assumption) (by assumption) rfl _ _))
          go_wp2_with fail
          go_ret
          exact ⟨ret_bool HN.out.symm, hb.trans ((Joins.below_draws _ _ _).mono hb.size)⟩
        · have HY : Hid (ptG xs ys L k = true) := by rw [Hid, HG.out, hd1, hd2]; rfl
          go_wp2_with fail
          go_quiet ((go_at_call 56; exact hasElement_is (by assumption) (by assumption) (by assumption) rfl _ _))
          have hqq : Below wr.heap.size wr (wr.drewN nq) := Joins.below_draws _ _ _
          have hb := hb.trans (hqq.mono hb.size)
          have hA := HAA.out.below hqq
          have hB := HBB.out.below hqq
          obtain ⟨wq, hwq⟩ : ∃ x : World, x = wr.drewN nq := ⟨_, rfl⟩
          rw [← hwq] at hb hA hB ⊢
          clear hwq hqq
          go_wp2_with fail
          go_roundw
          case rel =>
            refine ⟨k + 1, by omega, by go_num, hb, hA, hB, fun j hj => ?_⟩
            by_cases e : j = k
            · rw [e]; exact HY.out
            · exact HA.out j (by omega)
          case measure => simp [intOf]; omega
    · have HY : Hid (ptW xs ys L = true) := ptW_iff.2 (fun j hj => HA.out j (by omega))
      go_wp2_with fail
      go_ret
      exact ⟨ret_bool HY.out.symm, hb⟩

theorem sliceIndex_any (a : Option Addr) (es : List Int) (cap : Nat) (i : Int) (w : World) (hx : Rd w a es) :
    Calls Try.prog 121 #[.slice a es.length cap, .int .i64 i] w fun e w' => ∃ r : Int, e = .returned (.int .i64 r) ∧ decide (0 ≤ r) = memB es i ∧ w = w' := by
  have hlen := hx.len
  go_enter Try.func121, Try.ntmps121
  go_wp2_with fail
  go_loop [8] (fun i' => ∃ k : Nat, k ≤ es.length ∧ i' = .int .i64 k ∧ ∀ j, j < k → nth es j ≠ i) (fun i' => es.length - (intOf i').toNat)
  case atStart => exact ⟨0, Nat.zero_le _, rfl, fun j hj => by omega⟩
  case round =>
    obtain ⟨k, hk, rfl, hall⟩ := hrel
    have HA := Lib.hid hall
    clear hall
    by_cases hlt : k < es.length
    · obtain ⟨b, off, rfl, hbl, hc⟩ := hx.cell k hlt
      have k0 : (0 : Int) ≤ (k : Int) := by omega
      have k1 : (k : Int) < (es.length : Int) := by omega
      cases he : (i == nth es k)
      · have HE : Hid (nth es k ≠ i) := by
          have : ¬ i = nth es k := by simpa using he
          exact fun e => this e.symm
        go_wp2_with fail
        go_round
        case rel =>
          refine ⟨k + 1, by omega, by go_num, fun j hj => ?_⟩
          by_cases e : j = k
          · rw [e]; exact HE.out
          · exact HA.out j (by omega)
        case measure => simp [intOf]; omega
      · have HM : Hid (memB es i = true) := memB_iff.2 ⟨k, hlt, (show i = nth es k by simpa using he).symm⟩
        go_wp2_with fail
        go_ret
        exact ⟨(k : Int), rfl, by rw [HM.out]; simp, rfl⟩
    · have HM : Hid (memB es i = false) := by
        rw [Hid, ← Bool.not_eq_true, memB_iff]
        rintro ⟨j, hj, e⟩
        exact HA.out j (by omega) e
      go_wp2_with fail
      go_ret
      exact ⟨-1, rfl, by rw [HM.out]; rfl, rfl⟩
theorem sliceHas_any (a : Option Addr) (es : List Int) (cap : Nat) (i : Int) (w : World) (hx : Rd w a es) :
    Calls Try.prog 96 #[.slice a es.length cap, .int .i64 i] w fun e w' => e = .returned (.bool (memB es i)) ∧ w = w' := by
  go_enter Try.func96, Try.ntmps96
  go_wp2_with fail
  refine (sliceIndex_any _ _ _ _ _ hx).mono ?_
  rintro e w' ⟨r, rfl, hr, rfl⟩
  have HR := Lib.hid hr
  clear hr
  go_wp2_with fail
  go_ret
  exact ⟨ret_bool HR.out, rfl⟩

/-- what stands behind the search -/
def CnPost (w0 : World) (B g cap n L : Nat) (l : List Int) (r : Option (List Int)) (e : Ending) (w' : World) : Prop :=
  Below B w0 w' ∧ ((∃ ys, r = some ys ∧ ys.length = L ∧ e = .returned (.tuple #[.slice (some ⟨g, 0, none⟩) L cap, .bool true]) ∧ OwnI w' B (.slice (some ⟨g, 0, none⟩) L cap) ys) ∨ (r = none ∧ e = .returned (.tuple #[.slice none 0 0, .bool false]) ∧ OwnI w' B (.slice (some ⟨g, 0, none⟩) n cap) l))

theorem OwnI.init {w : World} {B g n cap : Nat} {xs : List Int} {x : Int} (h : OwnI w B (.slice (some ⟨g, 0, none⟩) n cap) (xs ++ [x])) : OwnI w B (.slice (some ⟨g, 0, none⟩) xs.length cap) xs := by
  rcases h.2 with ⟨e, _⟩ | ⟨g', cap', cur, e, hb, hg, hn, hm, hs, ht⟩
  · cases e
  · simp only [Value.slice.injEq, Option.some.injEq, Addr.mk.injEq, and_true] at e
    obtain ⟨rfl, _, rfl⟩ := e
    rw [List.length_append, List.length_singleton] at hn ht
    refine ⟨by simp, .inr ⟨_, _, cur, rfl, hb, hg, by omega, hm, hs, ?_⟩⟩
    have h1 := congrArg (List.take xs.length) ht
    rw [List.take_take, show min xs.length ((xs.length + 1) * 1) = xs.length * 1 by omega, List.map_append] at h1
    rw [h1, List.take_append_of_le_length (by simp), List.take_of_length_le (by simp)]

set_option maxRecDepth 100000 in
set_option maxHeartbeats 4000000 in
theorem cp_any (w0 : World) (n : Int) (a : Option Addr) (xs : List Int) (cap : Nat) (m : Int) (b : Option Addr) (ys : List Int) (cap2 : Nat) (g cp : Nat) (hp : RelP n xs) (hq : RelP m ys) (hx : Rd w0 a xs) (hy : Rd w0 b ys) (hcap : ys.length ≤ cp) :
    ∀ (d : Nat) (l : List Int) (w : World), l.length + d = ys.length → LtL xs.length l → Below w0.heap.size w0 w → OwnI w w0.heap.size (.slice (some ⟨g, 0, none⟩) l.length cp) l →
    Calls Try.prog 50 #[.agg #[.int .i64 n, .slice a xs.length cap], .agg #[.int .i64 m, .slice b ys.length cap2], .slice (some ⟨g, 0, none⟩) l.length cp] w fun e w' => CnPost w0 w0.heap.size g cp l.length ys.length l (fpS xs ys d l) e w' ∧ w.grownBy w' (some g) := by
  have x10 : xs.length ≤ 10 := by have := hp.len; have := hp.n1; omega
  have y10 : ys.length ≤ 10 := by have := hq.len; have := hq.n1; omega
  obtain rfl : n = (xs.length : Int) := hp.len.symm
  obtain rfl : m = (ys.length : Int) := hq.len.symm
  intro d
  induction d with
  | zero =>
    intro l w hl hlt hb ho
    have hz : ((l.length : Int) == (ys.length : Int)) = true := by simp; omega
    have hb0 : Below w.heap.size w ((w.alloc (.cells #[.int .i64 (xs.length : Int), .slice a xs.length cap] 28)).alloc (.cells #[.int .i64 (ys.length : Int), .slice b ys.length cap2] 28)) := (by repeat (first | exact Below.refl _ _ | assumption | refine Below.alloc ?_ (by first | exact Nat.le_refl _ | (simp only [World.size_alloc, World.size_setCell, World.size_drew]; omega) | omega) _ | refine Below.setCell ?_ (by first | exact Nat.le_refl _ | (simp only [World.size_alloc, World.size_setCell, World.size_drew]; omega) | omega) _ | refine Below.drew ?_))
    have HG0 := Lib.hid (below_grown hb0 (Nat.le_refl _) (some g))
    have HP : Hid (CnPost w0 w0.heap.size g cp l.length ys.length l (fpS xs ys 0 l) (.returned (.tuple #[.slice (some ⟨g, 0, none⟩) l.length cp, .bool true])) ((w.alloc (.cells #[.int .i64 (xs.length : Int), .slice a xs.length cap] 28)).alloc (.cells #[.int .i64 (ys.length : Int), .slice b ys.length cap2] 28))) := by
      have e : l.length = ys.length := by omega
      refine ⟨hb.trans (hb0.mono hb.size), .inl ⟨l, rfl, e, by rw [e], ?_⟩⟩
      have ho' := ho.below hb0 (Nat.le_refl _)
      rw [e] at ho'
      exact ho'
    clear hb ho hl hlt hb0
    go_enter Try.func50, Try.ntmps50
    go_wp2_with fail
    exact bodyPost_ret (v := .tuple #[.slice (some ⟨g, 0, none⟩) l.length cp, .bool true]) (by simp [results, Try.results50, go_sem]) rfl ⟨HP.out, HG0.out⟩
  | succ d ih =>
    intro l w hl hlt hb ho
    obtain ⟨i0, hi, hz0, hz1, hz2⟩ := info_parts infoInt
    have hz : ((l.length : Int) == (ys.length : Int)) = false := by simp; omega
    have HIH := Lib.hid ih
    have HLT := Lib.hid hlt
    have HX := Lib.hid hx
    have HYY := Lib.hid hy
    have hll : l.length < ys.length := by omega
    have HLD : Hid (l.length + 1 + d = ys.length) := by show l.length + 1 + d = ys.length; omega
    obtain ⟨A1, B1, bw1⟩ := boxes2 (w := w) (u := .int .i64 (xs.length : Int)) (v := .slice a xs.length cap) (u2 := .int .i64 (ys.length : Int)) (v2 := .slice b ys.length cap2) (Below.refl _ _)
    have hgw := (ho.lt g rfl).2
    have hg0 := (ho.lt g rfl).1
    have HO := Lib.hid (ho.below bw1 (Nat.le_refl _))
    have HBW := Lib.hid (hb.trans (bw1.mono hb.size))
    have HGW := Lib.hid (below_grown bw1 (Nat.le_refl _) (some g))
    have hw0 := hb.size
    obtain ⟨G, hG⟩ : ∃ G : Nat → Option (List Int), G = fun i : Nat => if !memB l (i : Int) && ptW xs ys (l ++ [(i : Int)]) then fpS xs ys d (l ++ [(i : Int)]) else none := ⟨_, rfl⟩
    have HG : Hid (∀ i : Nat, G i = if !memB l (i : Int) && ptW xs ys (l ++ [(i : Int)]) then fpS xs ys d (l ++ [(i : Int)]) else none) := fun i => by rw [hG]
    have HR : Hid (fpS xs ys (d+1) l = find1 G xs.length) := by rw [Hid, fpS, hG]
    clear ih hlt hb ho hl hG hx hy
    go_enter Try.func50, Try.ntmps50
    go_wp2_with fail
    obtain ⟨w1, hw1⟩ : ∃ x : World, x = (w.alloc (.cells #[.int .i64 (xs.length : Int), .slice a xs.length cap] 28)).alloc (.cells #[.int .i64 (ys.length : Int), .slice b ys.length cap2] 28) := ⟨_, rfl⟩
    rw [← hw1] at A1 B1 bw1 HO HBW HGW ⊢
    clear hw1
    go_loopw [20] (fun i wq => ∃ k : Nat, k ≤ xs.length ∧ i = .int .i64 k ∧ OwnI wq w0.heap.size (.slice (some ⟨g, 0, none⟩) l.length cp) l ∧ Below w0.heap.size w0 wq ∧ Box2 wq w.heap.size (.int .i64 (xs.length : Int)) (.slice a xs.length cap) ∧ Box2 wq (w.heap.size + 1) (.int .i64 (ys.length : Int)) (.slice b ys.length cap2) ∧ w.grownBy wq (some g) ∧ (∀ j, j < k → G j = none)) (fun i _ => xs.length - (intOf i).toNat)
    case atStart => exact ⟨0, Nat.zero_le _, rfl, HO.out, HBW.out, A1, B1, HGW.out, fun j hj => by omega⟩
    case round =>
      clear A1 B1 bw1
      obtain ⟨k, hk, rfl, hoq, hbq, hA, hB, hgq, hno⟩ := hrel
      have HGQ := Lib.hid hgq
      clear hgq
      have HNO := Lib.hid hno
      have HBQ := Lib.hid hbq
      have hbs := hbq.size
      have HA := Lib.hid hA
      have HB := Lib.hid hB
      have ⟨zA, cA, dA⟩ := hA
      have ⟨zB, cB, dB⟩ := hB
      clear hno hA hB
      by_cases hkM : k < xs.length
      · have h1 : (k : Int) < (xs.length : Int) := by omega
        have HL1 := Lib.hid (HLT.out.snoc hkM)
        have HLN : Hid ((l ++ [(k : Int)]).length = l.length + 1) := by simp [Hid]
        have HGK := Lib.hid (HG.out k)
        go_wp2_with (at_builtin; refine wpList_append_fits _ rfl _ _ 22 rfl w0.heap.size 3 i0 1 Try.underlying22 hi hz1 g l.length cp (l.map (Value.int .i64)) rfl (by have h := hoq.alloc (.cells #[.int .i64 (k : Int)] 3); unfold OwnI at h; exact h) ⟨wr.heap.size, 0, none⟩ 1 1 [.int .i64 (k : Int)] rfl rfl (cell_one_new _ _ _) (by intro u hu; simp at hu; subst hu; rfl) (by omega) ?_)
        intro w3 hown3 hgrow
        have hg2 := grown_alloc_set hgrow
        have b3 : Below w0.heap.size w0 w3 := HBQ.out.trans (grown_below hg2 _ hg0 hbs)
        have A3 := HA.out.kept hg2 (by simp only [ne_eq, Option.some.injEq]; omega)
        have B3 := HB.out.kept hg2 (by simp only [ne_eq, Option.some.injEq]; omega)
        have o3 : OwnI w3 w0.heap.size (.slice (some ⟨g, 0, none⟩) (l ++ [(k : Int)]).length cp) (l ++ [(k : Int)]) := by
          unfold OwnI
          rw [List.length_append, List.map_append]
          exact hown3
        have HB3 := Lib.hid b3
        have HO3 := Lib.hid o3
        have HRL := Lib.hid (o3.init.rd)
        have hb3 := b3.size
        have HA3 := Lib.hid A3
        have HB3' := Lib.hid B3
        have HG3 := Lib.hid (grown_trans HGQ.out hg2)
        have HF := Lib.hid (fits_any (xs.length : Int) a xs cap (ys.length : Int) b ys cap2 (some ⟨g, 0, none⟩) (l ++ [(k : Int)]) cp w3 (HX.out.below b3) hp (HYY.out.below b3) hq o3.rd (by simp) (by simp; omega) HL1.out)
        clear hown3 hgrow hg2 b3 o3 hoq hbq cA dA cB dB zA zB A3 B3
        have ⟨zA, cA, dA⟩ := HA3.out
        have ⟨zB, cB, dB⟩ := HB3'.out
        obtain ⟨P, hP⟩ : ∃ P, P = l ++ [(k : Int)] := ⟨_, rfl⟩
        rw [← hP] at HL1 HLN HGK HO3 HF
        have HPE := Lib.hid hP
        clear hP
        rw [HLN.out] at HF HO3
        cases hm : memB l (k : Int)
        · cases hf : ptW xs ys P
          · have HGN : Hid (G k = none) := by rw [Hid, HGK.out, hf, Bool.and_false]; rfl
            go_wp2_with fail
            refine (sliceHas_any _ _ _ _ _ HRL.out).mono ?_
            rw [hm]
            rintro e w4 ⟨rfl, rfl⟩
            go_wp2_with fail
            refine HF.out.mono ?_
            rw [hf]
            rintro e w4 ⟨rfl, hb4⟩
            have O4 := HO3.out.below hb4 (Nat.le_refl _)
            have B4 := HB3.out.trans (hb4.mono hb3)
            have A5 := HA3.out.below hb4
            have B5 := HB3'.out.below hb4
            have HG4 := Lib.hid (grown_trans HG3.out (below_grown hb4 (Nat.le_refl _) (some g)))
            rw [HPE.out] at O4
            have O6 := O4.init
            clear hb4 O4 cA dA cB dB
            go_wp2_with fail
            go_roundw
            case rel =>
              refine ⟨k + 1, by omega, by go_num, O6, B4, A5, B5, HG4.out, fun j hj => ?_⟩
              by_cases e : j = k
              · rw [e]; exact HGN.out
              · exact HNO.out j (by omega)
            case measure => simp [intOf]; omega
          · have HGN : Hid (G k = fpS xs ys d P) := by rw [Hid, HGK.out, hf, hm]; rfl
            go_wp2_with fail
            refine (sliceHas_any _ _ _ _ _ HRL.out).mono ?_
            rw [hm]
            rintro e w4 ⟨rfl, rfl⟩
            go_wp2_with fail
            refine HF.out.mono ?_
            rw [hf]
            rintro e w4 ⟨rfl, hb4⟩
            have O4 := HO3.out.below hb4 (Nat.le_refl _)
            have B4 := HB3.out.trans (hb4.mono hb3)
            have HA5 := Lib.hid (HA3.out.below hb4)
            have HB5 := Lib.hid (HB3'.out.below hb4)
            have HG4 := Lib.hid (grown_trans HG3.out (below_grown hb4 (Nat.le_refl _) (some g)))
            have ⟨zA5, cA5, dA5⟩ := HA5.out
            have ⟨zB5, cB5, dB5⟩ := HB5.out
            have HC2 := Lib.hid (HIH.out P w4 (by rw [HLN.out]; exact HLD.out) HL1.out B4 (by rw [HLN.out]; exact O4))
            rw [HLN.out, ← HGN.out] at HC2
            clear hb4 O4 B4 cA dA cB dB
            go_wp2_with fail
            refine HC2.out.mono ?_
            rintro e w5 ⟨⟨hb5, ⟨zs, hzs, hzl, rfl, ho5⟩ | ⟨hzs, rfl, ho5⟩⟩, hg5⟩
            · have HPO : Hid (CnPost w0 w0.heap.size g cp l.length ys.length l (fpS xs ys (d+1) l) (.returned (.tuple #[.slice (some ⟨g, 0, none⟩) ys.length cp, .bool true])) w5) := by
                refine ⟨hb5, .inl ⟨zs, ?_, hzl, rfl, ho5⟩⟩
                rw [HR.out]
                exact find1_some hkM hzs HNO.out
              have HG5 := Lib.hid (grown_trans HG4.out hg5)
              clear ho5 hb5 hg5
              go_wp2_with fail
              exact bodyPost_ret (v := .tuple #[.slice (some ⟨g, 0, none⟩) ys.length cp, .bool true]) (by simp [results, Try.results50, go_sem]) rfl ⟨HPO.out, HG5.out⟩
            · rw [HPE.out] at ho5
              have O6 := ho5.init
              have HZ := Lib.hid hzs
              have HG5 := Lib.hid (grown_trans HG4.out hg5)
              have A7 := HA5.out.kept hg5 (by simp only [ne_eq, Option.some.injEq]; omega)
              have B7 := HB5.out.kept hg5 (by simp only [ne_eq, Option.some.injEq]; omega)
              clear ho5 hzs hg5
              go_wp2_with fail
              go_roundw
              case rel =>
                refine ⟨k + 1, by omega, by go_num, O6, hb5, A7, B7, HG5.out, fun j hj => ?_⟩
                by_cases e : j = k
                · rw [e]; exact HZ.out
                · exact HNO.out j (by omega)
              case measure => simp [intOf]; omega
        · have HGN : Hid (G k = none) := by rw [Hid, HGK.out, hm]; rfl
          go_wp2_with fail
          refine (sliceHas_any _ _ _ _ _ HRL.out).mono ?_
          rw [hm]
          rintro e w4 ⟨rfl, rfl⟩
          have O4 := HO3.out
          rw [HPE.out] at O4
          have O6 := O4.init
          clear O4
          go_wp2_with fail
          go_roundw
          case rel =>
            refine ⟨k + 1, by omega, by go_num, O6, HB3.out, HA3.out, HB3'.out, HG3.out, fun j hj => ?_⟩
            by_cases e : j = k
            · rw [e]; exact HGN.out
            · exact HNO.out j (by omega)
          case measure => simp [intOf]; omega
      · have HPO : Hid (CnPost w0 w0.heap.size g cp l.length ys.length l (fpS xs ys (d+1) l) (.returned (.tuple #[.slice none 0 0, .bool false])) wr) := by
          refine ⟨HBQ.out, .inr ⟨?_, rfl, hoq⟩⟩
          rw [HR.out]
          exact find1_none (fun j hj => HNO.out j (by omega))
        have h1 : ¬ (k : Int) < (xs.length : Int) := by omega
        clear hoq hbq
        go_wp2_with fail
        exact bodyPost_ret (v := .tuple #[.slice none 0 0, .bool false]) (by simp [results, Try.results50, go_sem]) rfl ⟨HPO.out, HGQ.out⟩

theorem fullSet_any (n : Int) (w : World) (h0 : 0 ≤ n) (h1 : n ≤ 10) :
    Calls Try.prog 55 #[.int .i64 n] w fun e w' => e = .returned (.int .i64 (2 ^ n.toNat - 1)) ∧ w = w' := by
  have hf := Lib.hid (full_eq h0 h1)
  go_enter Try.func55, Try.ntmps55
  go_wp2
  go_ret
  exact ⟨ret_int hf.out, rfl⟩

theorem isSet_any (s n : Int) (w : World) (h0' : 0 ≤ n) (h1' : n ≤ 10) :
    Calls Try.prog 120 #[.int .i64 s, .int .i64 n] w fun e w' => e = .returned (.bool (inB s 0 (2 ^ n.toNat - 1))) ∧ w = w' := by
  by_cases h0 : 0 ≤ s
  · by_cases h1 : s ≤ 2 ^ n.toNat - 1
    · have hf := Lib.hid (inB_iff.2 ⟨h0, h1⟩)
      go_enter Try.func120, Try.ntmps120
      go_wp2_with (go_at_call 55; refine (fullSet_any _ _ h0' h1').mono ?_; rintro e w' ⟨rfl, rfl⟩)
      go_ret
      exact ⟨ret_bool (by rw [hf.out]; try simp [h1]), rfl⟩
    · have hf := Lib.hid (inB_no (lo := 0).2 (.inr (show 2 ^ n.toNat - 1 < s by omega)))
      go_enter Try.func120, Try.ntmps120
      go_wp2_with (go_at_call 55; refine (fullSet_any _ _ h0' h1').mono ?_; rintro e w' ⟨rfl, rfl⟩)
      go_ret
      exact ⟨ret_bool (by rw [hf.out]; try simp [h1]), rfl⟩
  · have hf := Lib.hid (inB_no (hi := 2 ^ n.toNat - 1).2 (.inl (show s < 0 by omega)))
    go_enter Try.func120, Try.ntmps120
    go_wp2_with fail
    go_ret
    exact ⟨ret_bool (by rw [hf.out]; try simp [h1]), rfl⟩

theorem areSets_any (a : Option Addr) (xs : List Int) (cap : Nat) (n : Int) (w : World) (hx : Rd w a xs) (h0' : 0 ≤ n) (h1' : n ≤ 10) :
    Calls Try.prog 95 #[.slice a xs.length cap, .int .i64 n] w fun e w' => e = .returned (.bool (allB xs 0 (2 ^ n.toNat - 1))) ∧ w = w' := by
  have hlen := hx.len
  go_enter Try.func95, Try.ntmps95
  go_wp2_with fail
  go_loop [9] (fun i => ∃ k : Nat, k ≤ xs.length ∧ i = .int .i64 k ∧ allB (xs.take k) 0 (2 ^ n.toNat - 1) = true) (fun i => xs.length - (intOf i).toNat)
  case atStart => exact ⟨0, Nat.zero_le _, rfl, rfl⟩
  case round =>
    obtain ⟨k, hk, rfl, hall⟩ := hrel
    by_cases hlt : k < xs.length
    · obtain ⟨b, off, rfl, hbl, hc⟩ := hx.cell k hlt
      cases hin : inB (nth xs k) 0 (2 ^ n.toNat - 1)
      · have hf := Lib.hid (allB_false hlt hin)
        go_wp2_with (go_at_call 120; refine (isSet_any _ _ _ h0' h1').mono ?_; rintro e w' ⟨rfl, rfl⟩)
        go_ret
        exact ⟨ret_bool hf.out.symm, rfl⟩
      · go_wp2_with (go_at_call 120; refine (isSet_any _ _ _ h0' h1').mono ?_; rintro e w' ⟨rfl, rfl⟩)
        go_round
        case rel => exact ⟨k + 1, by omega, by go_num, by rw [allB_take _ _ _ _ hlt, hall, hin]; rfl⟩
        case measure => simp [intOf]; omega
    · go_wp2_with fail
      go_ret
      exact ⟨ret_bool (by rw [← hall, List.take_of_length_le (by omega)]), rfl⟩

theorem iIsRelation_any (n : Int) (a : Option Addr) (xs : List Int) (cap : Nat) (w : World) (_hn : -9223372036854775808 ≤ n ∧ n ≤ 9223372036854775807) (hx : Rd w a xs) :
    Calls Try.prog 49 #[.agg #[.int .i64 n, .slice a xs.length cap]] w fun e w' => e = .returned (.bool (relB n xs)) ∧ Below w.heap.size w w' := by
  have hx1 := hx.alloc (.cells #[.int .i64 n, .slice a xs.length cap] 28)
  have hlen := hx.len
  by_cases h0 : 0 ≤ n
  · by_cases h1 : n ≤ 10
    · cases h2 : ((xs.length : Int) == n)
      · have HR : Hid (relB n xs = false) := by
          have : ¬ (xs.length : Int) = n := by simpa using h2
          simp [Hid, relB, this]
        go_enter Try.func49, Try.ntmps49
        go_wp2_with fail
        go_ret
        exact ⟨ret_bool HR.out.symm, (by repeat (first | exact Below.refl _ _ | assumption | refine Below.alloc ?_ (by first | exact Nat.le_refl _ | (simp only [World.size_alloc, World.size_setCell, World.size_drew]; omega) | omega) _ | refine Below.setCell ?_ (by first | exact Nat.le_refl _ | (simp only [World.size_alloc, World.size_setCell, World.size_drew]; omega) | omega) _ | refine Below.drew ?_))⟩
      · have HR : Hid (relB n xs = allB xs 0 (2 ^ n.toNat - 1)) := by
          have : (xs.length : Int) = n := by simpa using h2
          simp [Hid, relB, inB, h0, h1, this]
        go_enter Try.func49, Try.ntmps49
        go_wp2_with fail
        refine (areSets_any _ _ _ _ _ hx1 h0 h1).mono ?_
        rintro e w' ⟨rfl, rfl⟩
        go_wp2_with fail
        go_ret
        exact ⟨ret_bool HR.out.symm, (by repeat (first | exact Below.refl _ _ | assumption | refine Below.alloc ?_ (by first | exact Nat.le_refl _ | (simp only [World.size_alloc, World.size_setCell, World.size_drew]; omega) | omega) _ | refine Below.setCell ?_ (by first | exact Nat.le_refl _ | (simp only [World.size_alloc, World.size_setCell, World.size_drew]; omega) | omega) _ | refine Below.drew ?_))⟩
    · have HR : Hid (relB n xs = false) := by simp [Hid, relB, inB]; omega
      go_enter Try.func49, Try.ntmps49
      go_wp2_with fail
      go_ret
      exact ⟨ret_bool HR.out.symm, (by repeat (first | exact Below.refl _ _ | assumption | refine Below.alloc ?_ (by first | exact Nat.le_refl _ | (simp only [World.size_alloc, World.size_setCell, World.size_drew]; omega) | omega) _ | refine Below.setCell ?_ (by first | exact Nat.le_refl _ | (simp only [World.size_alloc, World.size_setCell, World.size_drew]; omega) | omega) _ | refine Below.drew ?_))⟩
  · have HR : Hid (relB n xs = false) := by simp [Hid, relB, inB]; omega
    go_enter Try.func49, Try.ntmps49
    go_wp2_with fail
    go_ret
    exact ⟨ret_bool HR.out.symm, (by repeat (first | exact Below.refl _ _ | assumption | refine Below.alloc ?_ (by first | exact Nat.le_refl _ | (simp only [World.size_alloc, World.size_setCell, World.size_drew]; omega) | omega) _ | refine Below.setCell ?_ (by first | exact Nat.le_refl _ | (simp only [World.size_alloc, World.size_setCell, World.size_drew]; omega) | omega) _ | refine Below.drew ?_))⟩

/-- what make([]int, n) lays -/
def madeZ (n : Nat) : Array Value := madeCells (Value.int .i64 0).cells (n * 1)
theorem make_ints (n : Nat) (h : n ≤ 1024) (W : World) : (Instr.makeSlice 22 (.int .i64 (n : Int)) (.int .i64 (n : Int))).run Try.prog W = .ok (.slice (some ⟨W.heap.size, 0, none⟩) n n) (W.alloc (.cells (madeZ n) 3)) := by
  obtain ⟨i0, hi, hz0, hz1, hz2⟩ := info_parts infoInt
  have hr := run_make (P := Try.prog) W 22 3 i0 (.int .i64 0) Try.underlying22 hi hz0 .i64 .i64 n n (by omega) (Int.le_refl _) (by rw [hz2]; omega) (by omega)
  simp only [Int.toNat_natCast, hz1] at hr
  exact hr
theorem own_made (W : World) (B n : Nat) (h : n ≤ 1024) (hB : B ≤ W.heap.size) : OwnI (W.alloc (.cells (madeZ n) 3)) B (.slice (some ⟨W.heap.size, 0, none⟩) n n) (List.replicate n 0) := by
  have := World.ownsRow_lit W (e := 3) (size := 1) (madeZ n) n hB (by unfold maxLen; omega) (size_madeCells _ _)
  unfold OwnI
  rw [List.length_replicate, List.map_replicate]
  have e : (madeZ n).toList = List.replicate n (Value.int .i64 0) := by unfold madeZ; rw [Nat.mul_one]; exact toList_madeCells_one _ n
  rw [e] at this
  exact this

theorem make_room (n : Nat) (h : n ≤ 1024) (W : World) : (Instr.makeSlice 22 (.int .i64 0) (.int .i64 (n : Int))).run Try.prog W = .ok (.slice (some ⟨W.heap.size, 0, none⟩) 0 n) (W.alloc (.cells (madeZ n) 3)) := by
  obtain ⟨i0, hi, hz0, hz1, hz2⟩ := info_parts infoInt
  have hr := run_make (P := Try.prog) W 22 3 i0 (.int .i64 0) Try.underlying22 hi hz0 .i64 .i64 0 n (by omega) (by omega) (by rw [hz2]; omega) (by omega)
  simp only [Int.toNat_natCast, Int.toNat_zero, hz1] at hr
  exact hr
theorem own_room (W : World) (B n : Nat) (h : n ≤ 1024) (hB : B ≤ W.heap.size) : OwnI (W.alloc (.cells (madeZ n) 3)) B (.slice (some ⟨W.heap.size, 0, none⟩) 0 n) [] := by
  rcases (own_made W B n h hB).2 with ⟨e, _⟩ | ⟨g', cap', cur, e, hb, hg, hn, hm, hs, ht⟩
  · cases e
  · simp only [Value.slice.injEq, Option.some.injEq, Addr.mk.injEq, and_true] at e
    obtain ⟨rfl, _, rfl⟩ := e
    exact ⟨by simp, .inr ⟨_, _, cur, rfl, hb, hg, by first | exact Nat.zero_le _ | simp, hm, hs, by simp⟩⟩

set_option maxRecDepth 100000 in
set_option maxHeartbeats 1000000 in
theorem iFind_any (n : Int) (a : Option Addr) (xs : List Int) (cap : Nat) (m : Int) (b : Option Addr) (ys : List Int) (cap2 : Nat) (w : World) (hn : -9223372036854775808 ≤ n ∧ n ≤ 9223372036854775807) (hx : Rd w a xs) (hm : -9223372036854775808 ≤ m ∧ m ≤ 9223372036854775807) (hy : Rd w b ys) :
    Calls Try.prog 15 #[.agg #[.int .i64 n, .slice a xs.length cap], .agg #[.int .i64 m, .slice b ys.length cap2]] w fun e w' => ∃ a' cap', e = .returned (.tuple #[.slice a' (fpV n xs m ys).length cap', .bool (fpB n xs m ys)]) ∧ OwnI w' w.heap.size (.slice a' (fpV n xs m ys).length cap') (fpV n xs m ys) ∧ Below w.heap.size w w' := by
  have hx1 := (hx.alloc (.cells #[.int .i64 n, .slice a xs.length cap] 28)).alloc (.cells #[.int .i64 m, .slice b ys.length cap2] 28)
  have HN := Lib.hid hn
  have HM := Lib.hid hm
  clear hn hm
  go_enter Try.func15, Try.ntmps15
  go_wp2_with fail
  refine (iIsRelation_any _ _ _ _ _ HN.out hx1).mono ?_
  rintro e w1 ⟨rfl, hb1⟩
  obtain ⟨A1, B1, bw1⟩ := boxes2 hb1
  clear hb1 hx1
  cases hg : relB n xs
  · have HNO := Lib.hid (fp_no (n := n) (xs := xs) (m := m) (ys := ys) (by simp [fpOk, hg]))
    clear hg
    go_wp2_with fail
    refine bodyPost_ret (v := .tuple #[.slice none 0 0, .bool false]) (by simp [results, Try.results15, go_sem]) rfl ?_
    rw [HNO.out.1, HNO.out.2]
    exact ⟨none, 0, rfl, OwnI.nil _ _, bw1⟩
  · have hp := relB_p hg
    have HG := Lib.hid hg
    clear hg
    have ⟨zB, cB, dB⟩ := B1
    go_wp2_with fail
    refine (iIsRelation_any _ _ _ _ _ HM.out (hy.below bw1)).mono ?_
    rintro e w2 ⟨rfl, hb2⟩
    have bw2 : Below w.heap.size w w2 := bw1.trans (hb2.mono bw1.size)
    have A2 := A1.below hb2
    have B2 := B1.below hb2
    clear A1 B1 cB dB zB hb2 bw1
    have ⟨zA, cA, dA⟩ := A2
    have ⟨zB, cB, dB⟩ := B2
    cases hh : relB m ys
    · have HNO := Lib.hid (fp_no (n := n) (xs := xs) (m := m) (ys := ys) (by simp [fpOk, hh]))
      clear hh
      go_wp2_with fail
      refine bodyPost_ret (v := .tuple #[.slice none 0 0, .bool false]) (by simp [results, Try.results15, go_sem]) rfl ?_
      rw [HNO.out.1, HNO.out.2]
      exact ⟨none, 0, rfl, OwnI.nil _ _, bw2⟩
    · have hq := relB_p hh
      have HH := Lib.hid hh
      clear hh
      by_cases h6 : m ≤ 6
      · have HY := Lib.hid (fp_yes (n := n) (xs := xs) (m := m) (ys := ys) (by simp [fpOk, HG.out, HH.out, h6]))
        have bs2 := bw2.size
        have y10 : ys.length ≤ 10 := by have := hq.len; omega
        have hmk := make_room ys.length (by omega)
        obtain rfl : m = (ys.length : Int) := hq.len.symm
        have hW : Below w2.heap.size w2 (w2.alloc (.cells (madeZ ys.length) 3)).drew := ((Below.refl _ _).alloc (Nat.le_refl _) _).drew
        have hO : OwnI (w2.alloc (.cells (madeZ ys.length) 3)).drew w2.heap.size (.slice (some ⟨w2.heap.size, 0, none⟩) 0 ys.length) [] := (own_room w2 w2.heap.size ys.length (by omega) (Nat.le_refl _)).below (Below.refl _ _).drew (Nat.le_refl _)
        have HC := Lib.hid (cp_any w2 n a xs cap (ys.length : Int) b ys cap2 w2.heap.size ys.length hp hq (hx.below bw2) (hy.below bw2) (Nat.le_refl _) ys.length [] _ (by simp) (fun i hi => by simp at hi) hW hO)
        have HC2 : Hid (Calls Try.prog 50 #[.agg #[.int .i64 n, .slice a xs.length cap], .agg #[.int .i64 (ys.length : Int), .slice b ys.length cap2], .slice (some ⟨w2.heap.size, 0, none⟩) 0 ys.length] (w2.alloc (.cells (madeZ ys.length) 3)).drew fun e w' => ∃ a' cap', e = .returned (.tuple #[.slice a' ((fpS xs ys ys.length []).getD []).length cap', .bool (fpS xs ys ys.length []).isSome]) ∧ OwnI w' w2.heap.size (.slice a' ((fpS xs ys ys.length []).getD []).length cap') ((fpS xs ys ys.length []).getD []) ∧ Below w2.heap.size w2 w') := by
          refine HC.out.mono ?_
          rintro e w' ⟨⟨hb, ⟨zs, hz, hl, rfl, ho⟩ | ⟨hz, rfl, ho⟩⟩, _⟩
          · refine ⟨some ⟨w2.heap.size, 0, none⟩, ys.length, ?_, ?_, hb⟩
            · rw [hz, ← hl]; rfl
            · rw [hz, Option.getD_some, hl]; exact ho
          · refine ⟨none, 0, ?_, ?_, hb⟩
            · rw [hz]; rfl
            · rw [hz]; exact OwnI.nil _ _
        obtain ⟨r, hr⟩ : ∃ r, r = fpS xs ys ys.length [] := ⟨_, rfl⟩
        rw [← hr] at HC2 HY
        clear HC hW hO hr
        go_wp2_with fail
        go_region_held3 (fun w' => w'.cell? ⟨w.heap.size, 0, none⟩ = some (.int .i64 n) ∧ w'.cell? ⟨w.heap.size, 1, none⟩ = some (.slice a xs.length cap) ∧ w'.cell? ⟨w.heap.size + 1, 0, none⟩ = some (.int .i64 (ys.length : Int)) ∧ w'.cell? ⟨w.heap.size + 1, 1, none⟩ = some (.slice b ys.length cap2))
          (first | exact q3 | go_keep)
          (first | (go_at_call 50; refine HC2.out.mono ?_; rintro e w3 ⟨a3, c3, rfl, ho3, hb3⟩; have q3 : w3.cell? ⟨w.heap.size, 0, none⟩ = some (.int .i64 n) ∧ w3.cell? ⟨w.heap.size, 1, none⟩ = some (.slice a xs.length cap) ∧ w3.cell? ⟨w.heap.size + 1, 0, none⟩ = some (.int .i64 (ys.length : Int)) ∧ w3.cell? ⟨w.heap.size + 1, 1, none⟩ = some (.slice b ys.length cap2) := ⟨(A2.below hb3).2.1, (A2.below hb3).2.2, (B2.below hb3).2.1, (B2.below hb3).2.2⟩))
        all_goals
          go_wp2_with fail
          rw [HY.out.1, HY.out.2]
          refine bodyPost_ret (v := .tuple #[.slice a3 (r.getD []).length c3, .bool r.isSome]) (by simp [results, Try.results15, go_sem]) rfl ?_
          exact ⟨a3, c3, rfl, ho3.mono bs2, bw2.trans (hb3.mono bs2)⟩
      · have HNO := Lib.hid (fp_no (n := n) (xs := xs) (m := m) (ys := ys) (by simp [fpOk, h6]))
        clear zA zB
        go_wp2_with fail
        refine bodyPost_ret (v := .tuple #[.slice none 0 0, .bool false]) (by simp [results, Try.results15, go_sem]) rfl ?_
        rw [HNO.out.1, HNO.out.2]
        exact ⟨none, 0, rfl, OwnI.nil _ _, bw2⟩

/-- the marks k, k + 1, .. -/
def marks (k : Int) (n : Nat) : List Int := (List.range n).map (fun (j : Nat) => k + (j : Int))
theorem marks_len (k : Int) (n : Nat) : (marks k n).length = n := by simp [marks]
theorem marks_nth {k : Int} {n j : Nat} (h : j < n) : nth (marks k n) j = k + j := by
  simp [nth, marks, h]
theorem mark_step (k : Int) (xs : List Int) (j : Nat) (h : j < xs.length) :
    ((marks k j ++ xs.drop j).map (Value.int .i64)).set j (.int .i64 (k + j)) = (marks k (j+1) ++ xs.drop (j+1)).map (Value.int .i64) := by
  apply List.ext_getElem?
  intro i
  rw [List.getElem?_set]
  by_cases hj : j = i
  · subst hj
    rw [if_pos rfl, if_pos (by simp [marks_len]; omega), List.getElem?_map, List.getElem?_append_left (by rw [marks_len]; omega)]
    simp [marks]
  · simp only [hj, if_false, List.getElem?_map, List.getElem?_append, marks_len, List.getElem?_drop]
    by_cases h1 : i < j
    · have h2 : i < j + 1 := by omega
      simp [h1, h2, marks]
    · have h2 : ¬ i < j + 1 := by omega
      have h3 : j + (i - j) = j + 1 + (i - (j + 1)) := by omega
      simp [h1, h2, h3]
theorem own_ne {v u : Value} (h : ∀ c, v.ownBlock = some c → u.ownBlock ≠ some c) : v.ownBlock = none ∨ v.ownBlock ≠ u.ownBlock := by
  cases hv : v.ownBlock with
  | none => exact .inl rfl
  | some c => exact .inr (fun e => h c hv e.symm)

theorem markIntS_any (a : Option Addr) (xs : List Int) (cap : Nat) (k : Int) (B : Nat) (w : World) (h0 : 0 ≤ k) (h1 : k ≤ 1099511627776) (hn : xs.length ≤ 1048576) (ho : OwnI w B (.slice a xs.length cap) xs) :
    Calls Try.prog 19 #[.slice a xs.length cap, .int .i64 k] w fun e w' => e = .returned (.int .i64 (k + xs.length)) ∧ OwnI w' B (.slice a xs.length cap) (marks k xs.length) ∧ w.grownBy w' (Value.slice a xs.length cap).ownBlock := by
  go_enter Try.func19, Try.ntmps19
  go_wp2_with fail
  go_loopw [1, 5] (fun k' i wr => ∃ j : Nat, j ≤ xs.length ∧ i = .int .i64 j ∧ k' = .int .i64 (k + j) ∧ wr.ownsRow B 3 1 (.slice a xs.length cap) xs.length ((marks k j ++ xs.drop j).map (Value.int .i64)) ∧ w.grownBy wr (Value.slice a xs.length cap).ownBlock) (fun _ i _ => xs.length - (intOf i).toNat)
  case atStart => exact ⟨0, Nat.zero_le _, rfl, by simp, by (have e : marks k 0 ++ xs.drop 0 = xs := by simp [marks]); rw [e]; exact ho, World.grownBy.refl _ _⟩
  case round =>
    obtain ⟨j, hj, rfl, rfl, hown, hg⟩ := hrel
    by_cases hlt : j < xs.length
    · obtain ⟨g, rfl⟩ : ∃ g, a = some ⟨g, 0, none⟩ := by
        rcases hown.2 with ⟨e, h⟩ | ⟨g, c, cur, e, _⟩
        · omega
        · simp only [Value.slice.injEq] at e
          exact ⟨g, e.1⟩
      have hst := World.ownsRow.stored hown j (.int .i64 (k + j))
      rw [mark_step k xs j hlt] at hst
      have hcc := World.ownsRow.cellAt hown j (by omega)
      have hfr := World.ownsRow.frozenAt hown j
      have hcc' : ∃ u, wr.cell? ⟨g, j, none⟩ = some u := by
        rw [hcc]
        exact ⟨_, List.getElem?_eq_getElem (by simp [marks_len]; omega)⟩
      obtain ⟨u, hu⟩ := hcc'
      have Hst := Lib.hid hst
      have Hg := Lib.hid (grown_trans hg hst.2)
      clear hst hcc hown hg
      go_wp2
      go_roundw
      case rel => exact ⟨j + 1, by omega, by go_num, by go_num, Hst.out.1, Hg.out⟩
      case measure => simp [intOf]; omega
    · obtain rfl : j = xs.length := by omega
      go_wp2
      go_ret
      refine ⟨rfl, ?_, hg⟩
      have e : marks k xs.length ++ xs.drop xs.length = marks k xs.length := by simp
      rw [e] at hown
      show World.ownsRow _ _ _ _ _ _ _
      rw [marks_len]
      exact hown

theorem markOrder_any (n : Int) (a : Option Addr) (xs : List Int) (cap : Nat) (k : Int) (B : Nat) (w : World) (h0 : 0 ≤ k) (h1 : k ≤ 1099511627776) (hn : xs.length ≤ 1048576) (ho : OwnI w B (.slice a xs.length cap) xs) :
    Calls Try.prog 18 #[.agg #[.int .i64 n, .slice a xs.length cap], .int .i64 k] w fun e w' => e = .returned (.int .i64 (k + xs.length)) ∧ OwnI w' B (.slice a xs.length cap) (marks k xs.length) ∧ w.grownBy w' (Value.slice a xs.length cap).ownBlock := by
  go_enter Try.func18, Try.ntmps18
  go_wp2_with fail
  refine (markIntS_any _ _ _ _ B _ h0 h1 hn (ho.alloc _)).mono ?_
  rintro e w1 ⟨rfl, ho1, hg1⟩
  go_wp2_with fail
  go_ret
  exact ⟨rfl, ho1, grown_alloc_set hg1⟩

theorem heldIntS_any (a : Option Addr) (n cap : Nat) (k : Int) (w : World) (h0 : 0 ≤ k) (h1 : k ≤ 1099511627776) (hn : n ≤ 1048576) (hx : Rd w a (marks k n)) :
    Calls Try.prog 20 #[.slice a n cap, .int .i64 k] w fun e w' => e = .returned (.int .i64 (k + n)) ∧ Below w.heap.size w w' := by
  go_enter Try.func20, Try.ntmps20
  go_wp2_with fail
  go_loop [1, 5] (fun k' i => ∃ j : Nat, j ≤ n ∧ i = .int .i64 j ∧ k' = .int .i64 (k + j)) (fun _ i => n - (intOf i).toNat)
  case atStart => exact ⟨0, Nat.zero_le _, rfl, by simp⟩
  case round =>
    obtain ⟨j, hj, rfl, rfl⟩ := hrel
    by_cases hlt : j < n
    · obtain ⟨b, off, rfl, hbl, hc⟩ := hx.cell j (by rw [marks_len]; exact hlt)
      rw [marks_nth hlt] at hc
      go_wp2_with fail
      go_round
      case rel => exact ⟨j + 1, by omega, by go_num, by go_num⟩
      case measure => simp [intOf]; omega
    · obtain rfl : j = n := by omega
      go_wp2_with fail
      go_ret
      exact ⟨rfl, (by repeat (first | exact Below.refl _ _ | assumption | refine Below.alloc ?_ (by first | exact Nat.le_refl _ | (simp only [World.size_alloc, World.size_setCell, World.size_drew]; omega) | omega) _ | refine Below.setCell ?_ (by first | exact Nat.le_refl _ | (simp only [World.size_alloc, World.size_setCell, World.size_drew]; omega) | omega) _ | refine Below.drew ?_))⟩

theorem walk (n0 : Int) (a0 : Option Addr) (xs0 : List Int) (cap0 : Nat) (n1 : Int) (a1 : Option Addr) (xs1 : List Int) (cap1 : Nat) (w : World) (hn0 : -9223372036854775808 ≤ n0 ∧ n0 ≤ 9223372036854775807) (hx0 : Rd w a0 xs0) (hn1 : -9223372036854775808 ≤ n1 ∧ n1 ≤ 9223372036854775807) (hx1 : Rd w a1 xs1) :
    Calls Try.prog 3 #[.agg #[.int .i64 n0, .slice a0 xs0.length cap0], .agg #[.int .i64 n1, .slice a1 xs1.length cap1]] w fun e w' => e = .returned (.bool true) ∧ Below w.heap.size w w' := by
  have hR0 : (fpV n0 xs0 n1 xs1).length ≤ 1048576 := fpV_len n0 xs0 n1 xs1
  by_cases hs0 : 1048576 < (xs0.length : Int)
  · go_enter Try.func3, Try.ntmps3
    go_wp2_with fail
    refine (szOrder_no (by omega) (by omega) (by omega) hx0.len).mono ?_
    rintro e w1 ⟨rfl, hb1⟩
    have bw1 : Below w.heap.size w w1 := Below.trans (by repeat (first | exact Below.refl _ _ | assumption | refine Below.alloc ?_ (by first | exact Nat.le_refl _ | (simp only [World.size_alloc, World.size_setCell, World.size_drew]; omega) | omega) _ | refine Below.setCell ?_ (by first | exact Nat.le_refl _ | (simp only [World.size_alloc, World.size_setCell, World.size_drew]; omega) | omega) _ | refine Below.drew ?_)) (hb1.mono (by first | (simp only [World.size_alloc, World.size_setCell, World.size_drew]; omega) | omega))
    have A0_1 : Box2 w1 w.heap.size (.int .i64 n0) (.slice a0 xs0.length cap0) := ⟨by have := hb1.size; simp at this; omega, (hb1.cell (p := ⟨w.heap.size, 0, none⟩) (by simp <;> omega)).trans (by simp), (hb1.cell (p := ⟨w.heap.size, 1, none⟩) (by simp <;> omega)).trans (by simp)⟩
    have ⟨zA0_1, cA0_1, dA0_1⟩ := A0_1
    have A1_1 : Box2 w1 (w.heap.size + 1) (.int .i64 n1) (.slice a1 xs1.length cap1) := ⟨by have := hb1.size; simp at this; omega, (hb1.cell (p := ⟨(w.heap.size + 1), 0, none⟩) (by simp <;> omega)).trans (by simp), (hb1.cell (p := ⟨(w.heap.size + 1), 1, none⟩) (by simp <;> omega)).trans (by simp)⟩
    have ⟨zA1_1, cA1_1, dA1_1⟩ := A1_1
    go_wp2_with fail
    go_ret
    exact ⟨rfl, bw1⟩
  by_cases hs1 : 1048576 < (xs0.length : Int) + (xs1.length : Int)
  · go_enter Try.func3, Try.ntmps3
    go_wp2_with fail
    refine (szOrder_ok (by omega) (by omega)).mono ?_
    rintro e w1 ⟨rfl, hb1⟩
    have bw1 : Below w.heap.size w w1 := Below.trans (by repeat (first | exact Below.refl _ _ | assumption | refine Below.alloc ?_ (by first | exact Nat.le_refl _ | (simp only [World.size_alloc, World.size_setCell, World.size_drew]; omega) | omega) _ | refine Below.setCell ?_ (by first | exact Nat.le_refl _ | (simp only [World.size_alloc, World.size_setCell, World.size_drew]; omega) | omega) _ | refine Below.drew ?_)) (hb1.mono (by first | (simp only [World.size_alloc, World.size_setCell, World.size_drew]; omega) | omega))
    have A0_1 : Box2 w1 w.heap.size (.int .i64 n0) (.slice a0 xs0.length cap0) := ⟨by have := hb1.size; simp at this; omega, (hb1.cell (p := ⟨w.heap.size, 0, none⟩) (by simp <;> omega)).trans (by simp), (hb1.cell (p := ⟨w.heap.size, 1, none⟩) (by simp <;> omega)).trans (by simp)⟩
    have ⟨zA0_1, cA0_1, dA0_1⟩ := A0_1
    have A1_1 : Box2 w1 (w.heap.size + 1) (.int .i64 n1) (.slice a1 xs1.length cap1) := ⟨by have := hb1.size; simp at this; omega, (hb1.cell (p := ⟨(w.heap.size + 1), 0, none⟩) (by simp <;> omega)).trans (by simp), (hb1.cell (p := ⟨(w.heap.size + 1), 1, none⟩) (by simp <;> omega)).trans (by simp)⟩
    have ⟨zA1_1, cA1_1, dA1_1⟩ := A1_1
    go_wp2_with fail
    refine (szOrder_no (by omega) (by omega) (by omega) hx1.len).mono ?_
    rintro e w2 ⟨rfl, hb2⟩
    have bw2 : Below w.heap.size w w2 := bw1.trans (hb2.mono bw1.size)
    have A0_2 := A0_1.below hb2
    have ⟨zA0_2, cA0_2, dA0_2⟩ := A0_2
    have A1_2 := A1_1.below hb2
    have ⟨zA1_2, cA1_2, dA1_2⟩ := A1_2
    go_wp2_with fail
    go_ret
    exact ⟨rfl, bw2⟩
  go_enter Try.func3, Try.ntmps3
  go_wp2_with fail
  refine (szOrder_ok (by omega) (by omega)).mono ?_
  rintro e w1 ⟨rfl, hb⟩
  have bw1 : Below w.heap.size w w1 := Below.trans (by repeat (first | exact Below.refl _ _ | assumption | refine Below.alloc ?_ (by first | exact Nat.le_refl _ | (simp only [World.size_alloc, World.size_setCell, World.size_drew]; omega) | omega) _ | refine Below.setCell ?_ (by first | exact Nat.le_refl _ | (simp only [World.size_alloc, World.size_setCell, World.size_drew]; omega) | omega) _ | refine Below.drew ?_)) (hb.mono (by first | (simp only [World.size_alloc, World.size_setCell, World.size_drew]; omega) | omega))
  have z1 : w.heap.size ≤ w1.heap.size := bw1.size
  have A0_1 : Box2 w1 w.heap.size (.int .i64 n0) (.slice a0 xs0.length cap0) := ⟨by have := hb.size; simp at this; omega, (hb.cell (p := ⟨w.heap.size, 0, none⟩) (by simp <;> omega)).trans (by simp), (hb.cell (p := ⟨w.heap.size, 1, none⟩) (by simp <;> omega)).trans (by simp)⟩
  have ⟨zA0_1, cA0_1, dA0_1⟩ := A0_1
  have A1_1 : Box2 w1 (w.heap.size + 1) (.int .i64 n1) (.slice a1 xs1.length cap1) := ⟨by have := hb.size; simp at this; omega, (hb.cell (p := ⟨(w.heap.size + 1), 0, none⟩) (by simp <;> omega)).trans (by simp), (hb.cell (p := ⟨(w.heap.size + 1), 1, none⟩) (by simp <;> omega)).trans (by simp)⟩
  have ⟨zA1_1, cA1_1, dA1_1⟩ := A1_1
  clear hb
  go_wp2_with fail
  refine (szOrder_ok (by omega) (by omega)).mono ?_
  rintro e w2 ⟨rfl, hb⟩
  have ht : Below w1.heap.size w1 w2 := hb
  have z2 : w1.heap.size ≤ w2.heap.size := ht.size
  have bw2 : Below w.heap.size w w2 := bw1.trans (ht.mono bw1.size)
  have A0_2 := A0_1.below ht
  have A1_2 := A1_1.below ht
  have ⟨zA0_2, cA0_2, dA0_2⟩ := A0_2
  have ⟨zA1_2, cA1_2, dA1_2⟩ := A1_2
  clear A0_1 cA0_1 dA0_1 A1_1 cA1_1 dA1_1
  clear ht hb
  go_wp2_with fail
  go_region_held3 (fun w' => w'.cell? ⟨w.heap.size, 0, none⟩ = some (.int .i64 n0) ∧ w'.cell? ⟨w.heap.size, 1, none⟩ = some (.slice a0 xs0.length cap0) ∧ w'.cell? ⟨(w.heap.size + 1), 0, none⟩ = some (.int .i64 n1) ∧ w'.cell? ⟨(w.heap.size + 1), 1, none⟩ = some (.slice a1 xs1.length cap1))
    (first | exact ⟨QA0_5.2.1, QA0_5.2.2, QA1_5.2.1, QA1_5.2.2⟩ | exact ⟨QA0_4.2.1, QA0_4.2.2, QA1_4.2.1, QA1_4.2.2⟩ | exact ⟨QA0_3.2.1, QA0_3.2.2, QA1_3.2.1, QA1_3.2.2⟩ | go_keep)
    (first | (go_at_call 13; refine (sFind_any _ _ _ _ _ _ _ _ _ hn0 (oT0.rd.below hb4) hn1 (oT1.rd)).mono ?_; rintro e w5 ⟨pR0, qR0, rfl, ho0, hb5⟩; have ht5 : Below w2.heap.size w2 w5 := ht4.trans (hb5.mono ht4.size); have bw5 : Below w.heap.size w w5 := bw2.trans (ht5.mono bw2.size); have QA0_5 := A0_2.below ht5; have QA1_5 := A1_2.below ht5) | (have _g := ht3; go_at_call 14; refine (toOrder_any _ _ _ _ _ (hx1.below bw3) (by omega)).mono ?_; rintro e w4 ⟨pT1, qT1, rfl, oT1, hb4⟩; have ht4 : Below w2.heap.size w2 w4 := ht3.trans (hb4.mono ht3.size); have bw4 : Below w.heap.size w w4 := bw2.trans (ht4.mono bw2.size); have QA0_4 := A0_2.below ht4; have QA1_4 := A1_2.below ht4) | (go_at_call 14; refine (toOrder_any _ _ _ _ _ (hx0.below (bw2.trans (Joins.below_draws _ _ _))) (by omega)).mono ?_; rintro e w3 ⟨pT0, qT0, rfl, oT0, hb3⟩; have ht3 : Below w2.heap.size w2 w3 := (Joins.below_draws _ _ _).trans hb3; have bw3 : Below w.heap.size w w3 := bw2.trans (ht3.mono bw2.size); have QA0_3 := A0_2.below ht3; have QA1_3 := A1_2.below ht3))
  have ht : Below w2.heap.size w2 w5 := ht5
  have z5 : w2.heap.size ≤ w5.heap.size := ht.size
  clear QA0_3 QA0_4 QA0_5 QA1_3 QA1_4 QA1_5 oT0 oT1
  have A0_5 := A0_2.below ht
  have A1_5 := A1_2.below ht
  have ⟨zA0_5, cA0_5, dA0_5⟩ := A0_5
  have ⟨zA1_5, cA1_5, dA1_5⟩ := A1_5
  clear A0_2 cA0_2 dA0_2 A1_2 cA1_2 dA1_2
  have R0_5 := ho0
  have UR0 := R0_5.cut (Nat.le_refl _)
  clear ho0
  clear ht ht3 hb3 ht4 hb4 ht5 hb5
  go_wp2_with fail
  refine (toOrder_any _ _ _ _ _ (hx0.below bw5) (by omega)).mono ?_
  rintro e w6 ⟨pX0, qX0, rfl, ho, hb⟩
  have ht : Below w5.heap.size w5 w6 := hb
  have z6 : w5.heap.size ≤ w6.heap.size := ht.size
  have bw6 : Below w.heap.size w w6 := bw5.trans (ht.mono bw5.size)
  have A0_6 := A0_5.below ht
  have A1_6 := A1_5.below ht
  have ⟨zA0_6, cA0_6, dA0_6⟩ := A0_6
  have ⟨zA1_6, cA1_6, dA1_6⟩ := A1_6
  have R0_6 := R0_5.below ht (Nat.le_refl _)
  clear A0_5 cA0_5 dA0_5 A1_5 cA1_5 dA1_5 R0_5
  have X0_6 := ho
  have UX0 := X0_6.cut (Nat.le_refl _)
  clear ho
  clear ht hb
  go_wp2_with fail
  refine (toOrder_any _ _ _ _ _ (hx1.below (bw6.alloc bw6.size _)) (by omega)).mono ?_
  rintro e w7 ⟨pX1, qX1, rfl, ho, hb⟩
  have ht : Below w6.heap.size w6 w7 := Below.trans (by repeat (first | exact Below.refl _ _ | assumption | refine Below.alloc ?_ (by first | exact Nat.le_refl _ | (simp only [World.size_alloc, World.size_setCell, World.size_drew]; omega) | omega) _ | refine Below.setCell ?_ (by first | exact Nat.le_refl _ | (simp only [World.size_alloc, World.size_setCell, World.size_drew]; omega) | omega) _ | refine Below.drew ?_)) (hb.mono (by first | (simp only [World.size_alloc, World.size_setCell, World.size_drew]; omega) | omega))
  have z7 : w6.heap.size ≤ w7.heap.size := ht.size
  have bw7 : Below w.heap.size w w7 := bw6.trans (ht.mono bw6.size)
  have A0_7 := A0_6.below ht
  have A1_7 := A1_6.below ht
  have BX0_7 : Box2 w7 w6.heap.size (.int .i64 n0) (.slice pX0 xs0.length qX0) := (Box2.new w6 _ _ 28).below hb
  have ⟨zA0_7, cA0_7, dA0_7⟩ := A0_7
  have ⟨zA1_7, cA1_7, dA1_7⟩ := A1_7
  have ⟨zBX0_7, cBX0_7, dBX0_7⟩ := BX0_7
  have R0_7 := R0_6.below ht (Nat.le_refl _)
  have X0_7 := X0_6.below ht (Nat.le_refl _)
  clear A0_6 cA0_6 dA0_6 A1_6 cA1_6 dA1_6 R0_6 X0_6
  have X1_7 := ho
  have UX1 := X1_7.cut (Nat.le_refl _); simp only [World.size_alloc] at UX1
  clear ho
  clear ht hb
  go_wp2_with fail
  refine (iFind_any _ _ _ _ _ _ _ _ _ hn0 (X0_7.rd.below (by repeat (first | exact Below.refl _ _ | assumption | refine Below.alloc ?_ (by first | exact Nat.le_refl _ | (simp only [World.size_alloc, World.size_setCell, World.size_drew]; omega) | omega) _ | refine Below.setCell ?_ (by first | exact Nat.le_refl _ | (simp only [World.size_alloc, World.size_setCell, World.size_drew]; omega) | omega) _ | refine Below.drew ?_))) hn1 (X1_7.rd.below (by repeat (first | exact Below.refl _ _ | assumption | refine Below.alloc ?_ (by first | exact Nat.le_refl _ | (simp only [World.size_alloc, World.size_setCell, World.size_drew]; omega) | omega) _ | refine Below.setCell ?_ (by first | exact Nat.le_refl _ | (simp only [World.size_alloc, World.size_setCell, World.size_drew]; omega) | omega) _ | refine Below.drew ?_)))).mono ?_
  rintro e w8 ⟨pG0, qG0, rfl, ho0, hb⟩
  have ht : Below w7.heap.size w7 w8 := Below.trans (by repeat (first | exact Below.refl _ _ | assumption | refine Below.alloc ?_ (by first | exact Nat.le_refl _ | (simp only [World.size_alloc, World.size_setCell, World.size_drew]; omega) | omega) _ | refine Below.setCell ?_ (by first | exact Nat.le_refl _ | (simp only [World.size_alloc, World.size_setCell, World.size_drew]; omega) | omega) _ | refine Below.drew ?_)) (hb.mono (by first | (simp only [World.size_alloc, World.size_setCell, World.size_drew]; omega) | omega))
  have z8 : w7.heap.size ≤ w8.heap.size := ht.size
  have bw8 : Below w.heap.size w w8 := bw7.trans (ht.mono bw7.size)
  have A0_8 := A0_7.below ht
  have A1_8 := A1_7.below ht
  have BX0_8 := BX0_7.below ht
  have BX1_8 : Box2 w8 w7.heap.size (.int .i64 n1) (.slice pX1 xs1.length qX1) := (Box2.new w7 _ _ 28).below hb
  have ⟨zA0_8, cA0_8, dA0_8⟩ := A0_8
  have ⟨zA1_8, cA1_8, dA1_8⟩ := A1_8
  have ⟨zBX0_8, cBX0_8, dBX0_8⟩ := BX0_8
  have ⟨zBX1_8, cBX1_8, dBX1_8⟩ := BX1_8
  have R0_8 := R0_7.below ht (Nat.le_refl _)
  have X0_8 := X0_7.below ht (Nat.le_refl _)
  have X1_8 := X1_7.below ht (Nat.le_refl _)
  clear A0_7 cA0_7 dA0_7 A1_7 cA1_7 dA1_7 BX0_7 cBX0_7 dBX0_7 R0_7 X0_7 X1_7
  have G0_8 := ho0
  have UG0 := G0_8.cut (Nat.le_refl _); simp only [World.size_alloc] at UG0
  clear ho0
  clear ht hb
  go_wp2_with fail
  refine (eqIntS_any _ _ (fpV n0 xs0 n1 xs1) (fpV n0 xs0 n1 xs1) _ _ _ (G0_8.rd) (R0_8.rd)).mono ?_
  rw [eqL_self]
  rintro e w9 ⟨rfl, hb⟩
  have ht : Below w8.heap.size w8 w9 := hb
  have z9 : w8.heap.size ≤ w9.heap.size := ht.size
  have bw9 : Below w.heap.size w w9 := bw8.trans (ht.mono bw8.size)
  have A0_9 := A0_8.below ht
  have A1_9 := A1_8.below ht
  have BX0_9 := BX0_8.below ht
  have BX1_9 := BX1_8.below ht
  have ⟨zA0_9, cA0_9, dA0_9⟩ := A0_9
  have ⟨zA1_9, cA1_9, dA1_9⟩ := A1_9
  have ⟨zBX0_9, cBX0_9, dBX0_9⟩ := BX0_9
  have ⟨zBX1_9, cBX1_9, dBX1_9⟩ := BX1_9
  have R0_9 := R0_8.below ht (Nat.le_refl _)
  have X0_9 := X0_8.below ht (Nat.le_refl _)
  have X1_9 := X1_8.below ht (Nat.le_refl _)
  have G0_9 := G0_8.below ht (Nat.le_refl _)
  clear A0_8 cA0_8 dA0_8 A1_8 cA1_8 dA1_8 BX0_8 cBX0_8 dBX0_8 BX1_8 cBX1_8 dBX1_8 R0_8 X0_8 X1_8 G0_8
  clear ht hb
  go_wp2_with fail
  go_region_held3 (fun w' => w'.cell? ⟨w.heap.size, 0, none⟩ = some (.int .i64 n0) ∧ w'.cell? ⟨w.heap.size, 1, none⟩ = some (.slice a0 xs0.length cap0) ∧ w'.cell? ⟨w6.heap.size, 0, none⟩ = some (.int .i64 n0) ∧ w'.cell? ⟨w6.heap.size, 1, none⟩ = some (.slice pX0 xs0.length qX0))
    (first | exact ⟨P11.2.1, P11.2.2, Q11.2.1, Q11.2.2⟩ | exact ⟨P10.2.1, P10.2.2, Q10.2.1, Q10.2.2⟩ | go_keep)
    (first | (go_at_call 14; refine (toOrder_any _ _ _ _ _ (hx0.below (bw9.trans (Joins.below_draws _ _ _))) (by omega)).mono ?_; rintro e w10 ⟨a10', cap10', rfl, ho10, hb10⟩; have ht10 : Below w9.heap.size w9 w10 := (Joins.below_draws _ _ _).trans hb10; have P10 := A0_9.below ht10; have Q10 := BX0_9.below ht10) | (go_at_call 17; refine (eqOrder_any _ _ _ _ xs0 xs0 _ _ _ (X0_9.rd.below ht10) ho10.rd).mono ?_; rw [eqO_refl]; rintro e w11 ⟨rfl, hb11⟩; have P11 := P10.below hb11; have Q11 := Q10.below hb11))
  have ht : Below w9.heap.size w9 w11 := ht10.trans (hb11.mono ht10.size)
  have z11 : w9.heap.size ≤ w11.heap.size := ht.size
  have bw11 : Below w.heap.size w w11 := bw9.trans (ht.mono bw9.size)
  clear P10 Q10 P11 Q11 ho10
  have A0_11 := A0_9.below ht
  have A1_11 := A1_9.below ht
  have BX0_11 := BX0_9.below ht
  have BX1_11 := BX1_9.below ht
  have ⟨zA0_11, cA0_11, dA0_11⟩ := A0_11
  have ⟨zA1_11, cA1_11, dA1_11⟩ := A1_11
  have ⟨zBX0_11, cBX0_11, dBX0_11⟩ := BX0_11
  have ⟨zBX1_11, cBX1_11, dBX1_11⟩ := BX1_11
  have R0_11 := R0_9.below ht (Nat.le_refl _)
  have X0_11 := X0_9.below ht (Nat.le_refl _)
  have X1_11 := X1_9.below ht (Nat.le_refl _)
  have G0_11 := G0_9.below ht (Nat.le_refl _)
  clear A0_9 cA0_9 dA0_9 A1_9 cA1_9 dA1_9 BX0_9 cBX0_9 dBX0_9 BX1_9 cBX1_9 dBX1_9 R0_9 X0_9 X1_9 G0_9
  clear ht hb11 ht10 hb10
  go_wp2_with fail
  go_region_held3 (fun w' => w'.cell? ⟨(w.heap.size + 1), 0, none⟩ = some (.int .i64 n1) ∧ w'.cell? ⟨(w.heap.size + 1), 1, none⟩ = some (.slice a1 xs1.length cap1) ∧ w'.cell? ⟨w7.heap.size, 0, none⟩ = some (.int .i64 n1) ∧ w'.cell? ⟨w7.heap.size, 1, none⟩ = some (.slice pX1 xs1.length qX1))
    (first | exact ⟨P13.2.1, P13.2.2, Q13.2.1, Q13.2.2⟩ | exact ⟨P12.2.1, P12.2.2, Q12.2.1, Q12.2.2⟩ | go_keep)
    (first | (go_at_call 14; refine (toOrder_any _ _ _ _ _ (hx1.below (bw11.trans (Joins.below_draws _ _ _))) (by omega)).mono ?_; rintro e w12 ⟨a12', cap12', rfl, ho12, hb12⟩; have ht12 : Below w11.heap.size w11 w12 := (Joins.below_draws _ _ _).trans hb12; have P12 := A1_11.below ht12; have Q12 := BX1_11.below ht12) | (go_at_call 17; refine (eqOrder_any _ _ _ _ xs1 xs1 _ _ _ (X1_11.rd.below ht12) ho12.rd).mono ?_; rw [eqO_refl]; rintro e w13 ⟨rfl, hb13⟩; have P13 := P12.below hb13; have Q13 := Q12.below hb13))
  have ht : Below w11.heap.size w11 w13 := ht12.trans (hb13.mono ht12.size)
  have z13 : w11.heap.size ≤ w13.heap.size := ht.size
  have bw13 : Below w.heap.size w w13 := bw11.trans (ht.mono bw11.size)
  clear P12 Q12 P13 Q13 ho12
  have A0_13 := A0_11.below ht
  have A1_13 := A1_11.below ht
  have BX0_13 := BX0_11.below ht
  have BX1_13 := BX1_11.below ht
  have ⟨zA0_13, cA0_13, dA0_13⟩ := A0_13
  have ⟨zA1_13, cA1_13, dA1_13⟩ := A1_13
  have ⟨zBX0_13, cBX0_13, dBX0_13⟩ := BX0_13
  have ⟨zBX1_13, cBX1_13, dBX1_13⟩ := BX1_13
  have R0_13 := R0_11.below ht (Nat.le_refl _)
  have X0_13 := X0_11.below ht (Nat.le_refl _)
  have X1_13 := X1_11.below ht (Nat.le_refl _)
  have G0_13 := G0_11.below ht (Nat.le_refl _)
  clear A0_11 cA0_11 dA0_11 A1_11 cA1_11 dA1_11 BX0_11 cBX0_11 dBX0_11 BX1_11 cBX1_11 dBX1_11 R0_11 X0_11 X1_11 G0_11
  clear ht hb13 ht12 hb12
  go_wp2_with fail
  refine (markOrder_any _ _ _ _ _ _ _ (by omega) (by omega) (by omega) X0_13).mono ?_
  rintro e w14 ⟨rfl, ho, hg⟩
  have z14 : w13.heap.size ≤ w14.heap.size := hg.size
  have bw14 : Below w.heap.size w w14 := bw13.trans (below_of_grown hg (fun b e => by have := UX0 b e; omega) (by omega))
  have A0_14 := A0_13.kept hg (ne_own (fun c e => by have := UX0 c e; omega))
  have ⟨zA0_14, cA0_14, dA0_14⟩ := A0_14
  have A1_14 := A1_13.kept hg (ne_own (fun c e => by have := UX0 c e; omega))
  have ⟨zA1_14, cA1_14, dA1_14⟩ := A1_14
  have BX0_14 := BX0_13.kept hg (ne_own (fun c e => by have := UX0 c e; omega))
  have ⟨zBX0_14, cBX0_14, dBX0_14⟩ := BX0_14
  have BX1_14 := BX1_13.kept hg (ne_own (fun c e => by have := UX0 c e; omega))
  have ⟨zBX1_14, cBX1_14, dBX1_14⟩ := BX1_14
  have R0_14 := R0_13.kept hg (own_ne (fun c e e2 => by have h1 := UR0 c e; have h2 := UX0 c e2; omega))
  have X1_14 := X1_13.kept hg (own_ne (fun c e e2 => by have h1 := UX1 c e; have h2 := UX0 c e2; omega))
  have G0_14 := G0_13.kept hg (own_ne (fun c e e2 => by have h1 := UG0 c e; have h2 := UX0 c e2; omega))
  clear A0_13 cA0_13 dA0_13 A1_13 cA1_13 dA1_13 BX0_13 cBX0_13 dBX0_13 BX1_13 cBX1_13 dBX1_13 R0_13 X0_13 X1_13 G0_13 hg
  have X0_14 := ho
  clear ho
  go_wp2_with fail
  refine (markOrder_any _ _ _ _ _ _ _ (by omega) (by omega) (by omega) X1_14).mono ?_
  rintro e w15 ⟨rfl, ho, hg⟩
  have z15 : w14.heap.size ≤ w15.heap.size := hg.size
  have bw15 : Below w.heap.size w w15 := bw14.trans (below_of_grown hg (fun b e => by have := UX1 b e; omega) (by omega))
  have A0_15 := A0_14.kept hg (ne_own (fun c e => by have := UX1 c e; omega))
  have ⟨zA0_15, cA0_15, dA0_15⟩ := A0_15
  have A1_15 := A1_14.kept hg (ne_own (fun c e => by have := UX1 c e; omega))
  have ⟨zA1_15, cA1_15, dA1_15⟩ := A1_15
  have BX0_15 := BX0_14.kept hg (ne_own (fun c e => by have := UX1 c e; omega))
  have ⟨zBX0_15, cBX0_15, dBX0_15⟩ := BX0_15
  have BX1_15 := BX1_14.kept hg (ne_own (fun c e => by have := UX1 c e; omega))
  have ⟨zBX1_15, cBX1_15, dBX1_15⟩ := BX1_15
  have R0_15 := R0_14.kept hg (own_ne (fun c e e2 => by have h1 := UR0 c e; have h2 := UX1 c e2; omega))
  have X0_15 := X0_14.kept hg (own_ne (fun c e e2 => by have h1 := UX0 c e; have h2 := UX1 c e2; omega))
  have G0_15 := G0_14.kept hg (own_ne (fun c e e2 => by have h1 := UG0 c e; have h2 := UX1 c e2; omega))
  clear A0_14 cA0_14 dA0_14 A1_14 cA1_14 dA1_14 BX0_14 cBX0_14 dBX0_14 BX1_14 cBX1_14 dBX1_14 R0_14 X0_14 X1_14 G0_14 hg
  have X1_15 := ho
  clear ho
  go_wp2_with fail
  refine (eqIntS_any _ _ (fpV n0 xs0 n1 xs1) (fpV n0 xs0 n1 xs1) _ _ _ (G0_15.rd) (R0_15.rd)).mono ?_
  rw [eqL_self]
  rintro e w16 ⟨rfl, hb⟩
  have ht : Below w15.heap.size w15 w16 := hb
  have z16 : w15.heap.size ≤ w16.heap.size := ht.size
  have bw16 : Below w.heap.size w w16 := bw15.trans (ht.mono bw15.size)
  have A0_16 := A0_15.below ht
  have A1_16 := A1_15.below ht
  have BX0_16 := BX0_15.below ht
  have BX1_16 := BX1_15.below ht
  have ⟨zA0_16, cA0_16, dA0_16⟩ := A0_16
  have ⟨zA1_16, cA1_16, dA1_16⟩ := A1_16
  have ⟨zBX0_16, cBX0_16, dBX0_16⟩ := BX0_16
  have ⟨zBX1_16, cBX1_16, dBX1_16⟩ := BX1_16
  have R0_16 := R0_15.below ht (Nat.le_refl _)
  have X0_16 := X0_15.below ht (Nat.le_refl _)
  have X1_16 := X1_15.below ht (Nat.le_refl _)
  have G0_16 := G0_15.below ht (Nat.le_refl _)
  clear A0_15 cA0_15 dA0_15 A1_15 cA1_15 dA1_15 BX0_15 cBX0_15 dBX0_15 BX1_15 cBX1_15 dBX1_15 R0_15 X0_15 X1_15 G0_15
  clear ht hb
  go_wp2_with fail
  refine (markIntS_any _ _ _ _ _ _ (by omega) (by omega) hR0 G0_16).mono ?_
  rintro e w17 ⟨rfl, ho, hg⟩
  have z17 : w16.heap.size ≤ w17.heap.size := hg.size
  have bw17 : Below w.heap.size w w17 := bw16.trans (below_of_grown hg (fun b e => by have := UG0 b e; omega) (by omega))
  have A0_17 := A0_16.kept hg (ne_own (fun c e => by have := UG0 c e; omega))
  have ⟨zA0_17, cA0_17, dA0_17⟩ := A0_17
  have A1_17 := A1_16.kept hg (ne_own (fun c e => by have := UG0 c e; omega))
  have ⟨zA1_17, cA1_17, dA1_17⟩ := A1_17
  have BX0_17 := BX0_16.kept hg (ne_own (fun c e => by have := UG0 c e; omega))
  have ⟨zBX0_17, cBX0_17, dBX0_17⟩ := BX0_17
  have BX1_17 := BX1_16.kept hg (ne_own (fun c e => by have := UG0 c e; omega))
  have ⟨zBX1_17, cBX1_17, dBX1_17⟩ := BX1_17
  have R0_17 := R0_16.kept hg (own_ne (fun c e e2 => by have h1 := UR0 c e; have h2 := UG0 c e2; omega))
  have X0_17 := X0_16.kept hg (own_ne (fun c e e2 => by have h1 := UX0 c e; have h2 := UG0 c e2; omega))
  have X1_17 := X1_16.kept hg (own_ne (fun c e e2 => by have h1 := UX1 c e; have h2 := UG0 c e2; omega))
  clear A0_16 cA0_16 dA0_16 A1_16 cA1_16 dA1_16 BX0_16 cBX0_16 dBX0_16 BX1_16 cBX1_16 dBX1_16 R0_16 X0_16 X1_16 G0_16 hg
  have G0_17 := ho
  clear ho
  go_wp2_with fail
  refine (heldIntS_any _ _ _ _ _ (by omega) (by omega) hR0 G0_17.rd).mono ?_
  rintro e w18 ⟨rfl, hb⟩
  have ht : Below w17.heap.size w17 w18 := hb
  have z18 : w17.heap.size ≤ w18.heap.size := ht.size
  have bw18 : Below w.heap.size w w18 := bw17.trans (ht.mono bw17.size)
  have A0_18 := A0_17.below ht
  have A1_18 := A1_17.below ht
  have BX0_18 := BX0_17.below ht
  have BX1_18 := BX1_17.below ht
  have ⟨zA0_18, cA0_18, dA0_18⟩ := A0_18
  have ⟨zA1_18, cA1_18, dA1_18⟩ := A1_18
  have ⟨zBX0_18, cBX0_18, dBX0_18⟩ := BX0_18
  have ⟨zBX1_18, cBX1_18, dBX1_18⟩ := BX1_18
  have R0_18 := R0_17.below ht (Nat.le_refl _)
  have X0_18 := X0_17.below ht (Nat.le_refl _)
  have X1_18 := X1_17.below ht (Nat.le_refl _)
  have G0_18 := G0_17.below ht (Nat.le_refl _)
  clear A0_17 cA0_17 dA0_17 A1_17 cA1_17 dA1_17 BX0_17 cBX0_17 dBX0_17 BX1_17 cBX1_17 dBX1_17 R0_17 X0_17 X1_17 G0_17
  clear ht hb
  go_wp2_with fail
  clear X0_18 UX0
  clear X1_18 UX1
  go_region_held3 (fun w' => w'.cell? ⟨w.heap.size, 0, none⟩ = some (.int .i64 n0) ∧ w'.cell? ⟨w.heap.size, 1, none⟩ = some (.slice a0 xs0.length cap0) ∧ w'.cell? ⟨(w.heap.size + 1), 0, none⟩ = some (.int .i64 n1) ∧ w'.cell? ⟨(w.heap.size + 1), 1, none⟩ = some (.slice a1 xs1.length cap1))
    (first | exact ⟨QA0_21.2.1, QA0_21.2.2, QA1_21.2.1, QA1_21.2.2⟩ | exact ⟨QA0_20.2.1, QA0_20.2.2, QA1_20.2.1, QA1_20.2.2⟩ | exact ⟨QA0_19.2.1, QA0_19.2.2, QA1_19.2.1, QA1_19.2.2⟩ | go_keep)
    (first | (go_at_call 15; refine (iFind_any _ _ _ _ _ _ _ _ _ hn0 (oV0.rd.below hb20) hn1 (oV1.rd)).mono ?_; rintro e w21 ⟨pH0, qH0, rfl, ho0, hb21⟩; have ht21 : Below w18.heap.size w18 w21 := ht20.trans (hb21.mono ht20.size); have bw21 : Below w.heap.size w w21 := bw18.trans (ht21.mono bw18.size); have QA0_21 := A0_18.below ht21; have QA1_21 := A1_18.below ht21) | (have _g := ht19; go_at_call 14; refine (toOrder_any _ _ _ _ _ (hx1.below bw19) (by omega)).mono ?_; rintro e w20 ⟨pV1, qV1, rfl, oV1, hb20⟩; have ht20 : Below w18.heap.size w18 w20 := ht19.trans (hb20.mono ht19.size); have bw20 : Below w.heap.size w w20 := bw18.trans (ht20.mono bw18.size); have QA0_20 := A0_18.below ht20; have QA1_20 := A1_18.below ht20) | (go_at_call 14; refine (toOrder_any _ _ _ _ _ (hx0.below (bw18.trans (Joins.below_draws _ _ _))) (by omega)).mono ?_; rintro e w19 ⟨pV0, qV0, rfl, oV0, hb19⟩; have ht19 : Below w18.heap.size w18 w19 := (Joins.below_draws _ _ _).trans hb19; have bw19 : Below w.heap.size w w19 := bw18.trans (ht19.mono bw18.size); have QA0_19 := A0_18.below ht19; have QA1_19 := A1_18.below ht19))
  have ht : Below w18.heap.size w18 w21 := ht21
  have z21 : w18.heap.size ≤ w21.heap.size := ht.size
  clear QA0_19 QA0_20 QA0_21 QA1_19 QA1_20 QA1_21 oV0 oV1
  have A0_21 := A0_18.below ht
  have A1_21 := A1_18.below ht
  have BX0_21 := BX0_18.below ht
  have BX1_21 := BX1_18.below ht
  have ⟨zA0_21, cA0_21, dA0_21⟩ := A0_21
  have ⟨zA1_21, cA1_21, dA1_21⟩ := A1_21
  have ⟨zBX0_21, cBX0_21, dBX0_21⟩ := BX0_21
  have ⟨zBX1_21, cBX1_21, dBX1_21⟩ := BX1_21
  have R0_21 := R0_18.below ht (Nat.le_refl _)
  have G0_21 := G0_18.below ht (Nat.le_refl _)
  clear A0_18 cA0_18 dA0_18 A1_18 cA1_18 dA1_18 BX0_18 cBX0_18 dBX0_18 BX1_18 cBX1_18 dBX1_18 R0_18 G0_18
  have H0_21 := ho0
  have UH0 := H0_21.cut (Nat.le_refl _)
  clear ho0
  clear ht ht19 hb19 ht20 hb20 ht21 hb21
  go_wp2_with fail
  refine (eqIntS_any _ _ (fpV n0 xs0 n1 xs1) (fpV n0 xs0 n1 xs1) _ _ _ (H0_21.rd) (R0_21.rd)).mono ?_
  rw [eqL_self]
  rintro e w22 ⟨rfl, hb⟩
  have ht : Below w21.heap.size w21 w22 := hb
  have z22 : w21.heap.size ≤ w22.heap.size := ht.size
  have bw22 : Below w.heap.size w w22 := bw21.trans (ht.mono bw21.size)
  have A0_22 := A0_21.below ht
  have A1_22 := A1_21.below ht
  have BX0_22 := BX0_21.below ht
  have BX1_22 := BX1_21.below ht
  have ⟨zA0_22, cA0_22, dA0_22⟩ := A0_22
  have ⟨zA1_22, cA1_22, dA1_22⟩ := A1_22
  have ⟨zBX0_22, cBX0_22, dBX0_22⟩ := BX0_22
  have ⟨zBX1_22, cBX1_22, dBX1_22⟩ := BX1_22
  have R0_22 := R0_21.below ht (Nat.le_refl _)
  have G0_22 := G0_21.below ht (Nat.le_refl _)
  have H0_22 := H0_21.below ht (Nat.le_refl _)
  clear A0_21 cA0_21 dA0_21 A1_21 cA1_21 dA1_21 BX0_21 cBX0_21 dBX0_21 BX1_21 cBX1_21 dBX1_21 R0_21 G0_21 H0_21
  clear ht hb
  go_wp2_with fail
  refine (heldIntS_any _ _ _ _ _ (by omega) (by omega) hR0 G0_22.rd).mono ?_
  rintro e w23 ⟨rfl, hb⟩
  have ht : Below w22.heap.size w22 w23 := hb
  have z23 : w22.heap.size ≤ w23.heap.size := ht.size
  have bw23 : Below w.heap.size w w23 := bw22.trans (ht.mono bw22.size)
  have A0_23 := A0_22.below ht
  have A1_23 := A1_22.below ht
  have BX0_23 := BX0_22.below ht
  have BX1_23 := BX1_22.below ht
  have ⟨zA0_23, cA0_23, dA0_23⟩ := A0_23
  have ⟨zA1_23, cA1_23, dA1_23⟩ := A1_23
  have ⟨zBX0_23, cBX0_23, dBX0_23⟩ := BX0_23
  have ⟨zBX1_23, cBX1_23, dBX1_23⟩ := BX1_23
  have R0_23 := R0_22.below ht (Nat.le_refl _)
  have G0_23 := G0_22.below ht (Nat.le_refl _)
  have H0_23 := H0_22.below ht (Nat.le_refl _)
  clear A0_22 cA0_22 dA0_22 A1_22 cA1_22 dA1_22 BX0_22 cBX0_22 dBX0_22 BX1_22 cBX1_22 dBX1_22 R0_22 G0_22 H0_22
  clear ht hb
  go_wp2_with fail
  go_ret
  exact ⟨rfl, bw23⟩

theorem rd_of_trod {H : Type} {enc : TypeId × Value → H} {W : World} {fuel : Nat} {c : Value} {y : DataW H × List MemPlace}
    (h : DataW.trod enc Try.prog W 0 (fun _ => true) true fuel 22 [c] = some y) : ∃ (a : Option Addr) (xs : List Int) (cap : Nat), c = .slice a xs.length cap ∧ Rd W a xs ∧ ∀ k, k < xs.length → (Lit.int .i64 (nth xs k)).wf = true := by
  rcases Go.ChangeShapes.open_ints Try.underlying22 Try.underlying3 (by kernel_rfl) h with ⟨hcs, _⟩ | ⟨x, len, cap, zs, hcs, _, hl, hm, hz, _, hcell, hwf⟩
  · simp only [List.cons.injEq, and_true] at hcs
    exact ⟨none, [], 0, hcs, ⟨by simp, fun k hk => by simp at hk⟩, fun k hk => by simp at hk⟩
  · simp only [List.cons.injEq, and_true] at hcs
    simp only [if_true] at hz
    have hlen : (zs.take len).length = len := by rw [List.length_take]; omega
    have hn : ∀ k, k < len → nth (zs.take len) k = zs.getD k 0 := by
      intro k hk
      simp only [nth, List.getD_eq_getElem?_getD, List.getElem?_take, hk, if_true]
    refine ⟨some x, zs.take len, cap, by rw [hlen]; exact hcs, ⟨by rw [hlen]; unfold maxLen at hm; omega, fun k hk => ?_⟩, fun k hk => ?_⟩
    · rw [hlen] at hk
      obtain ⟨b, off, sp⟩ := x
      have h0 := hcell 0 (by omega)
      have hsp : sp = none := by simpa [Addr.add] using World.cell?_spot h0
      subst hsp
      have hk' := hcell k (by omega)
      rw [Addr.add_lit] at hk'
      exact ⟨b, off, rfl, World.block_lt_of_cell? _ _ h0, by rw [hk', hn k hk]⟩
    · rw [hlen] at hk
      rw [hn k hk]
      have hk2 : k < zs.length := by omega
      exact hwf _ (by rw [List.getD_eq_getElem?_getD, List.getElem?_eq_getElem hk2]; exact List.getElem_mem hk2)

theorem own : ownKnob Try.prog.godebug = none := by kernel_rfl
theorem laidOut : laidOutB Try.prog = true := by kernel_rfl
theorem wf_bd {n : Int} (h : (Lit.int .i64 n).wf = true) : -9223372036854775808 ≤ n ∧ n ≤ 9223372036854775807 := by
  simp [Lit.wf, IntKind.min, IntKind.max, IntKind.bits, IntKind.signed] at h
  omega

theorem cellsO : Try.prog.cellsOf 24 = 2 := by kernel_rfl

open Go.ChangeShapes Go.WideShapes Go.ChangeAt Go.RowKit in
set_option maxRecDepth 100000 in
theorem lifted (os : Os) (started : os.Started) (H : Type) (enc : TypeId × Value → H) :
    ReturnsInHanded {} Try.checked os 3 .any (Rows.fnExactFindPatternSpec.pre6 enc Try.prog Try.f3 Rows.fnExactFindPatternRow.domain false) (Rows.fnExactFindPatternSpec.post enc Try.prog Try.f3 false true false false) := by
  refine returnsInHanded_of_change (C := Try.checked) own started (by kernel_rfl) Try.func3
    (ChangeSpec.witness6 (enc := enc) (C := Try.checked) false ⟨#[], #[.agg #[.int .i64 0, .slice none 0 0], .agg #[.int .i64 0, .slice none 0 0]], []⟩ 8 (by kernel_rfl) (by kernel_rfl) (by kernel_rfl) (by kernel_rfl)) ?_
  intro W base args ds gs before hval0 hW hcnd _
  have hval : ∀ (j : Nat) t v, Try.f3.params[j]? = some t → args[j]? = some v → Value.okWide Try.prog W .any base t v := hval0
  have hW' := hW
  obtain ⟨p, q, hA0, hV, rfl, hfz, hnd⟩ := hW
  have hA : DataW.TrodAll enc Try.prog W 0 (fun _ => true) true Try.f3.params.toList args.toList ds p := hA0
  rw [Try.params3] at hA hval
  obtain ⟨v0, vs0, d0, ds0, p0, q0, hargs, rfl, rfl, h0, r0⟩ := trodAll_cons hA
  obtain ⟨v1, vs1, d1, ds1, p1, q1, rfl, rfl, rfl, h1, r1⟩ := trodAll_cons r0
  obtain ⟨rfl, rfl, rfl⟩ := trodAll_nil r1
  obtain rfl : args = #[v0, v1] := by cases args; simp_all
  obtain ⟨rfl, rfl⟩ := trodVars_none hV
  have lt0 : ∀ x ∈ p0, x.block < W.heap.size := by obtain ⟨m, hm⟩ := h0; exact DataW.trod_lt m _ _ _ hm
  have lt1 : ∀ x ∈ p1, x.block < W.heap.size := by obtain ⟨m, hm⟩ := h1; exact DataW.trod_lt m _ _ _ hm
  obtain ⟨c00, c01, y00, y01, m0, rfl, hd0, hp0, hy00, hy01⟩ := Go.Joins.open_agg2 Try.underlying24 (by kernel_rfl) cellsO (hval 0 24 v0 rfl rfl) h0
  obtain ⟨n0, e00, _, wf0⟩ := DataW.trod_int Try.underlying3 hy00
  simp only [List.cons.injEq, and_true] at e00
  subst e00
  obtain ⟨a0, xs0, cap0, rfl, rd0, wl0⟩ := rd_of_trod hy01
  obtain ⟨c10, c11, y10, y11, m1, rfl, hd1, hp1, hy10, hy11⟩ := Go.Joins.open_agg2 Try.underlying24 (by kernel_rfl) cellsO (hval 1 24 v1 rfl rfl) h1
  obtain ⟨n1, e10, _, wf1⟩ := DataW.trod_int Try.underlying3 hy10
  simp only [List.cons.injEq, and_true] at e10
  subst e10
  obtain ⟨a1, xs1, cap1, rfl, rd1, wl1⟩ := rd_of_trod hy11
  clear hA0 hval0
  refine (walk n0 a0 xs0 cap0 n1 a1 xs1 cap1 W (wf_bd wf0) rd0 (wf_bd wf1) rd1).mono fun e W' ⟨he, bel⟩ => ?_
  subst he
  exact ⟨_, rfl, _, _, _, [], _, [], hW', trodAll_mk1 (shut_bool Try.underlying4 _), (trodAll_cons_mk (Below.trod laidOut (by kernel_rfl) (of_decide_eq_true (by kernel_rfl)) h0 bel lt0) (trodAll_cons_mk (Below.trod laidOut (by kernel_rfl) (of_decide_eq_true (by kernel_rfl)) h1 bel lt1) trodAll_mk0)), rfl, bel.frame _, fun h => by cases h⟩
theorem proved : Rows.FnExactFindPatternSaid :=
  OpenClaim.holds_of_wide 3 Try.f3 rfl rfl rfl rfl rfl rfl rfl ⟨rfl, rfl, rfl, rfl, rfl⟩ rfl rfl rfl rfl rfl (by kernel_rfl) Try.func3 (by kernel_rfl)
    (of_decide_eq_true (by kernel_rfl)) (by unfold Func.isWrapper; first | (rw [if_pos (by decide +kernel)]; kernel_rfl) | (rw [if_neg (by decide +kernel)]; exact ⟨rfl, rfl⟩))
    (fun os started H enc _ => lifted os started H enc)

end Go.Proofs.Ytaomjoaaoaombaa.findPattern
