/- PROVED: the law FnExactLeastThreshold returns true for every input, and each of its arguments reads afterwards as before. No conditions. -/
import Derived.Test.YtonphneolkijcaaRows
import Derived.WalkKit
import Derived.WalkSpells
import Derived.WalkLawsBesides
import Derived.Deep.QuietTactic
import Derived.BigQuiet
import Derived.ProofKit
import Derived.OpenShut
import Derived.ShutString
import Derived.ChangeOld
import Derived.Below
import Derived.Lib.SmallJoins
import Derived.Lib.Hide
import Derived.Deep.RegionHeld3
import Derived.Laws.MakeOwn
import Derived.Laws.OwnMore
import Derived.Deep.DeepCutAuto
namespace Go.Proofs.Ytonphneolkijcaa.leastThreshold
open Go Go.RowKit
set_option linter.unusedVariables false
set_option linter.unusedSimpArgs false
set_option maxHeartbeats 400000


/-- a number of a list; a plain function, which the walk leaves alone -/
def nth (xs : List Int) (k : Nat) : Int := xs.getD k 0
theorem nth_get (xs : List Int) (k : Nat) (h : k < xs.length) : nth xs k = xs[k] := by simp [nth, h]
/-- the slice at an address reads as a list -/
structure Rd (w : World) (a : Option Addr) (xs : List Int) : Prop where
  len : xs.length ≤ 9223372036854775807
  cell : ∀ k, k < xs.length → ∃ b off, a = some ⟨b, off, none⟩ ∧ b < w.heap.size ∧ w.cell? ⟨b, off + k, none⟩ = some (.int .i64 (nth xs k))
theorem Rd.below {w w' : World} {a : Option Addr} {xs : List Int} (h : Rd w a xs) (hb : Below w.heap.size w w') : Rd w' a xs :=
  ⟨h.len, fun k hk => by
    obtain ⟨b, off, e, hl, hc⟩ := h.cell k hk
    exact ⟨b, off, e, Nat.lt_of_lt_of_le hl hb.size, (hb.cell (World.block_lt_of_cell? _ _ hc)).trans hc⟩⟩
theorem Rd.mid {w w1 w2 : World} {a : Option Addr} {xs : List Int} {B : Nat} (h : Rd w a xs) (hb : Below B w1 w2) (hB : w.heap.size ≤ B) (h1 : Rd w1 a xs) : Rd w2 a xs :=
  ⟨h.len, fun k hk => by
    obtain ⟨b, off, e, hl, hc⟩ := h.cell k hk
    obtain ⟨b', off', e', hl', hc'⟩ := h1.cell k hk
    rw [e] at e'
    simp only [Option.some.injEq, Addr.mk.injEq, and_true] at e'
    obtain ⟨rfl, rfl⟩ := e'
    exact ⟨b, off, e, Nat.lt_of_lt_of_le hl' hb.size, (hb.cell (by show b < B; omega)).trans hc'⟩⟩
theorem Rd.alloc {w : World} {a : Option Addr} {xs : List Int} (h : Rd w a xs) (o : Obj) : Rd (w.alloc o) a xs :=
  h.below ((Below.refl _ _).alloc (Nat.le_refl _) o)
theorem Rd.same {w w' : World} {a : Option Addr} {xs : List Int} (h : Rd w a xs) (hs : w.heap.size ≤ w'.heap.size)
    (hb : ∀ b off, a = some ⟨b, off, none⟩ → w'.heap[b]? = w.heap[b]?) : Rd w' a xs :=
  ⟨h.len, fun k hk => by
    obtain ⟨b, off, e, hl, hc⟩ := h.cell k hk
    exact ⟨b, off, e, Nat.lt_of_lt_of_le hl hs, (World.cell?_of_block (w := w) (a := ⟨b, off + k, none⟩) (hb b off e)).trans hc⟩⟩
/-- a slice value that owns the row of these integers, in a block from B on -/
def OwnI (w : World) (B : Nat) (v : Value) (xs : List Int) : Prop := w.ownsRow B 3 1 v xs.length (xs.map (Value.int .i64))
theorem OwnI.form {w : World} {B : Nat} {v : Value} {xs : List Int} (h : OwnI w B v xs) : ∃ a cap, v = .slice a xs.length cap := by
  rcases h.2 with ⟨rfl, h0⟩ | ⟨g, cap, cur, rfl, _⟩
  · exact ⟨none, 0, by rw [h0]⟩
  · exact ⟨_, _, rfl⟩
theorem OwnI.rd {w : World} {B n cap : Nat} {a : Option Addr} {xs : List Int} (h : OwnI w B (.slice a n cap) xs) : Rd w a xs := by
  rcases h.2 with ⟨e, h0⟩ | ⟨g, cap', cur, e, hb, hg, hn, hm, hs, ht⟩
  · exact ⟨by omega, fun k hk => by omega⟩
  · simp only [Value.slice.injEq] at e
    obtain ⟨rfl, rfl, rfl⟩ := e
    refine ⟨by unfold maxLen at hm; omega, fun k hk => ⟨g, 0, rfl, (Array.getElem?_eq_some_iff.1 hg).1, ?_⟩⟩
    have := World.ownsRow.cellAt h k (by omega)
    rw [Nat.zero_add, this]
    simp [nth, hk]
theorem OwnI.blk {w : World} {B n cap : Nat} {a : Option Addr} {xs : List Int} (h : OwnI w B (.slice a n cap) xs) : ∀ b off s, a = some ⟨b, off, s⟩ → B ≤ b ∧ b < w.heap.size := by
  intro b off s e
  subst e
  exact World.ownsRow.lt h b rfl
theorem OwnI.kept {w w' : World} {B : Nat} {v : Value} {xs : List Int} {row : Option Nat} (h : OwnI w B v xs) (hg : w.grownBy w' row) (hne : v.ownBlock = none ∨ v.ownBlock ≠ row) : OwnI w' B v xs := World.ownsRow.kept h hg hne
theorem OwnI.mono {w : World} {B B' : Nat} {v : Value} {xs : List Int} (h : OwnI w B v xs) (hB : B' ≤ B) : OwnI w B' v xs := by
  refine ⟨h.1, ?_⟩
  rcases h.2 with hn | ⟨g, cap, cur, e, hb, rest⟩
  · exact .inl hn
  · exact .inr ⟨g, cap, cur, e, by omega, rest⟩
theorem OwnI.below {w w' : World} {B B' : Nat} {v : Value} {xs : List Int} (h : OwnI w B v xs) (hb : Below B' w w') (hB : w.heap.size ≤ B') : OwnI w' B v xs := by
  refine ⟨h.1, ?_⟩
  rcases h.2 with hn | ⟨g, cap, cur, e, hb', hg, rest⟩
  · exact .inl hn
  · refine .inr ⟨g, cap, cur, e, hb', ?_, rest⟩
    rw [hb.block g (by have := (Array.getElem?_eq_some_iff.1 hg).1; omega)]
    exact hg
theorem ret_bool {a b : Bool} (h : a = b) : Ending.returned (.bool a) = .returned (.bool b) := by rw [h]
theorem ret_int {a b : Int} (h : a = b) : Ending.returned (.int .i64 a) = .returned (.int .i64 b) := by rw [h]
theorem val_int {a b : Int} (h : a = b) : Value.int .i64 a = .int .i64 b := by rw [h]
theorem grown_below {w w' : World} {g : Nat} (h : w.grownBy w' (some g)) (B : Nat) (hB : B ≤ g) (hs : B ≤ w.heap.size) : Below B w w' :=
  ⟨h.os, h.tape, h.output, h.size, fun k hk => h.block k (by omega) (by intro e; simp only [Option.some.injEq] at e; omega)⟩
theorem below_grown {w w' : World} {B : Nat} (h : Below B w w') (hB : w.heap.size ≤ B) (row : Option Nat) : w.grownBy w' row :=
  ⟨h.os, h.tape, h.output, h.size, fun k hk _ => h.block k (by omega)⟩
theorem bcell {W w1 : World} (hb : Below W.heap.size W w1) : (∀ b o, b < W.heap.size → w1.cell? ⟨b, o, none⟩ = W.cell? ⟨b, o, none⟩) ∧ (∀ b o, b < W.heap.size → w1.frozen? ⟨b, o, none⟩ = W.frozen? ⟨b, o, none⟩) :=
  ⟨fun b o h => hb.cell (p := ⟨b, o, none⟩) h, fun b o h => hb.frozen (p := ⟨b, o, none⟩) h⟩
theorem infoInt : (Try.prog.info? 3).map (fun i => (i.zero, i.size, i.bytes)) = some (some (.int .i64 0), 1, 8) := by kernel_rfl
theorem OwnI.setBelow {w : World} {B : Nat} {v : Value} {xs : List Int} (h : OwnI w B v xs) {p : Addr} (hp : p.block < B) (u : Value) : OwnI (w.setCell p u) B v xs := ownsRow_setCell_below h hp u
theorem OwnI.alloc {w : World} {B : Nat} {v : Value} {xs : List Int} (h : OwnI w B v xs) (o : Obj) : OwnI (w.alloc o) B v xs := h.below ((Below.refl _ _).alloc (Nat.le_refl _) o) (Nat.le_refl _)
theorem Below.mono' {B B' : Nat} {w w' : World} (h : Below B w w') (hB : B' ≤ B) : Below B' w w' := h.mono hB
/-- a block that holds two cells -/
def Box2 (w : World) (b : Nat) (u v : Value) : Prop := b < w.heap.size ∧ w.cell? ⟨b, 0, none⟩ = some u ∧ w.cell? ⟨b, 1, none⟩ = some v
theorem Box2.below {w w' : World} {b : Nat} {u v : Value} (h : Box2 w b u v) (hb : Below w.heap.size w w') : Box2 w' b u v :=
  ⟨Nat.lt_of_lt_of_le h.1 hb.size, (hb.cell (p := ⟨b, 0, none⟩) h.1).trans h.2.1, (hb.cell (p := ⟨b, 1, none⟩) h.1).trans h.2.2⟩
theorem Box2.new (w : World) (u v : Value) (t : TypeId) : Box2 (w.alloc (.cells #[u, v] t)) w.heap.size u v :=
  ⟨by simp, by simp, by simp⟩
theorem Box2.kept {w w' : World} {b : Nat} {u v : Value} {row : Option Nat} (h : Box2 w b u v) (hg : w.grownBy w' row) (hne : some b ≠ row) : Box2 w' b u v :=
  ⟨Nat.lt_of_lt_of_le h.1 hg.size, hg.cell h.2.1 hne, hg.cell h.2.2 hne⟩
theorem OwnI.lt {w : World} {B : Nat} {v : Value} {xs : List Int} (h : OwnI w B v xs) : ∀ b, v.ownBlock = some b → B ≤ b ∧ b < w.heap.size := World.ownsRow.lt h
theorem OwnI.cut {w : World} {B : Nat} {v : Value} {xs : List Int} (h : OwnI w B v xs) {U : Nat} (hU : w.heap.size ≤ U) : ∀ b, v.ownBlock = some b → B ≤ b ∧ b < U := fun b e => ⟨(h.lt b e).1, Nat.lt_of_lt_of_le (h.lt b e).2 hU⟩
/-- a block of two cells that may be written -/
def Var2 (w : World) (b : Nat) (u v : Value) : Prop := Box2 w b u v ∧ w.frozen? ⟨b, 0, none⟩ = false ∧ w.frozen? ⟨b, 1, none⟩ = false
theorem Var2.below {w w' : World} {b : Nat} {u v : Value} (h : Var2 w b u v) (hb : Below w.heap.size w w') : Var2 w' b u v :=
  ⟨h.1.below hb, (hb.frozen (p := ⟨b, 0, none⟩) h.1.1).trans h.2.1, (hb.frozen (p := ⟨b, 1, none⟩) h.1.1).trans h.2.2⟩
theorem Var2.new (w : World) (u v : Value) (t : TypeId) : Var2 (w.alloc (.cells #[u, v] t)) w.heap.size u v :=
  ⟨Box2.new w u v t, by simp, by simp⟩
theorem Var2.alloc {w : World} {b : Nat} {u v : Value} (h : Var2 w b u v) (o : Obj) : Var2 (w.alloc o) b u v := h.below ((Below.refl _ _).alloc (Nat.le_refl _) o)
theorem Var2.kept {w w' : World} {b : Nat} {u v : Value} {row : Option Nat} (h : Var2 w b u v) (hg : w.grownBy w' row) (hne : some b ≠ row) : Var2 w' b u v :=
  ⟨h.1.kept hg hne, (World.frozen?_of_block (w := w) (a := ⟨b, 0, none⟩) (hg.block b h.1.1 hne)).trans h.2.1, (World.frozen?_of_block (w := w) (a := ⟨b, 1, none⟩) (hg.block b h.1.1 hne)).trans h.2.2⟩
theorem Var2.set {w : World} {b : Nat} {u v : Value} (h : Var2 w b u v) (u' v' : Value) : Var2 ((w.setCell ⟨b, 0, none⟩ u').setCell ⟨b, 1, none⟩ v') b u' v' := by
  refine ⟨⟨by simpa using h.1.1, ?_, ?_⟩, by simpa using h.2.1, by simpa using h.2.2⟩
  · rw [World.cell?_setCell_other _ _ _ _ (by simp), World.cell?_setCell_same _ _ _ h.1.2.1]
  · rw [World.cell?_setCell_same _ _ _ (u := v) (by rw [World.cell?_setCell_other _ _ _ _ (by simp)]; exact h.1.2.2)]
theorem grown_set (w : World) (p : Addr) (u : Value) : w.grownBy (w.setCell p u) (some p.block) :=
  ⟨rfl, rfl, rfl, by simp, fun k hk hn => Below.heap_setCell w p u k (fun e => hn (by rw [e]))⟩
theorem Var2.set1 {w : World} {b : Nat} {u v : Value} (h : Var2 w b u v) (v' : Value) : Var2 (w.setCell ⟨b, 1, none⟩ v') b u v' := by
  refine ⟨⟨by simpa using h.1.1, ?_, ?_⟩, by simpa using h.2.1, by simpa using h.2.2⟩
  · rw [World.cell?_setCell_other _ _ _ _ (by simp)]; exact h.1.2.1
  · rw [World.cell?_setCell_same _ _ _ h.1.2.2]
theorem Box2.set {w : World} {b : Nat} {u v : Value} (h : Box2 w b u v) {p : Addr} (x : Value) (hne : b ≠ p.block) : Box2 (w.setCell p x) b u v :=
  h.kept (grown_set w p x) (by simpa using hne)
theorem Var2.other {w : World} {b : Nat} {u v : Value} (h : Var2 w b u v) {p : Addr} (x : Value) (hne : b ≠ p.block) : Var2 (w.setCell p x) b u v :=
  h.kept (grown_set w p x) (by simpa using hne)
theorem ne_own {v : Value} {b : Nat} (h : ∀ c, v.ownBlock = some c → c ≠ b) : some b ≠ v.ownBlock := fun e => h b e.symm rfl
theorem grown_alloc_set {w w1 : World} {r : Option Nat} {o : Obj} (h : (w.alloc o).grownBy w1 r) : w.grownBy w1 r :=
  ⟨h.os, h.tape, h.output, by have := h.size; simp at this; omega, fun k hk hn => (h.block k (by simp; omega) hn).trans (Below.heap_alloc w o k hk)⟩
theorem grown_trans {w w1 w2 : World} {r : Option Nat} (h1 : w.grownBy w1 r) (h2 : w1.grownBy w2 r) : w.grownBy w2 r :=
  ⟨h2.os.trans h1.os, h2.tape.trans h1.tape, h2.output.trans h1.output, Nat.le_trans h1.size h2.size, fun k hk hn => (h2.block k (by have := h1.size; omega) hn).trans (h1.block k hk hn)⟩
theorem OwnI.nil (w : World) (B : Nat) : OwnI w B (.slice none 0 0) [] := World.ownsRow_nil _ _ _ _
theorem below_of_grown {w w' : World} {v : Value} {B : Nat} (hg : w.grownBy w' v.ownBlock) (hB : ∀ b, v.ownBlock = some b → B ≤ b) (hs : B ≤ w.heap.size) : Below B w w' :=
  ⟨hg.os, hg.tape, hg.output, hg.size, fun k hk => hg.block k (by omega) (fun e => by have := hB k e.symm; omega)⟩

def szF (left : Int) (n : Nat) : Int := if left - n < 0 then -1 else left - n
theorem szIntS_any (a : Option Addr) (n cap : Nat) (l : Int) (w : World) (h0 : 0 ≤ l) (h1 : l ≤ 1048576) (hn : n ≤ 9223372036854775807) :
    Calls Try.prog 51 #[.slice a n cap, .int .i64 l] w fun e w' => e = .returned (.int .i64 (szF l n)) ∧ w = w' := by
  by_cases h : l - n < 0
  · go_enter Try.func51, Try.ntmps51
    go_wp2
    go_ret
    exact ⟨ret_int (by simp [szF, h]), rfl⟩
  · go_enter Try.func51, Try.ntmps51
    go_wp2
    go_ret
    exact ⟨ret_int (by rw [szF, if_neg (by omega)]), rfl⟩

theorem szOrder_any (n : Int) (a : Option Addr) (len cap : Nat) (l : Int) (w : World) (h0 : 0 ≤ l) (h1 : l ≤ 1048576) (hn : len ≤ 9223372036854775807) :
    Calls Try.prog 15 #[.agg #[.int .i64 n, .slice a len cap], .int .i64 l] w fun e w' => e = .returned (.int .i64 (szF l len)) ∧ Below w.heap.size w w' := by
  by_cases h : l - len < 0
  · have hs : szF l len = -1 := by simp [szF, h]
    rw [hs]
    have HS := Lib.hid hs
    clear hs
    go_enter Try.func15, Try.ntmps15
    go_wp2_with (go_at_call 51; refine (szIntS_any _ _ _ _ _ h0 h1 hn).mono ?_; rintro e w' ⟨rfl, rfl⟩; rw [HS.out])
    go_ret
    exact ⟨rfl, (Below.refl _ _).alloc (Nat.le_refl _) _⟩
  · have hs : szF l len = l - len := by rw [szF, if_neg (by omega)]
    have hp : 0 ≤ szF l len := by omega
    clear hs
    go_enter Try.func15, Try.ntmps15
    go_wp2_with (go_at_call 51; refine (szIntS_any _ _ _ _ _ h0 h1 hn).mono ?_; rintro e w' ⟨rfl, rfl⟩)
    go_ret
    exact ⟨rfl, (Below.refl _ _).alloc (Nat.le_refl _) _⟩

theorem szOrder_ok {n : Int} {a : Option Addr} {len cap : Nat} {l : Int} {w : World} (h1 : l ≤ 1048576) (h : len ≤ l) :
    Calls Try.prog 15 #[.agg #[.int .i64 n, .slice a len cap], .int .i64 l] w fun e w' => e = .returned (.int .i64 (l - len)) ∧ Below w.heap.size w w' :=
  (szOrder_any n a len cap l w (by omega) h1 (by omega)).mono (fun e w' hh => ⟨by rw [hh.1, szF, if_neg (by omega)], hh.2⟩)
theorem szOrder_no {n : Int} {a : Option Addr} {len cap : Nat} {l : Int} {w : World} (h0 : 0 ≤ l) (h1 : l ≤ 1048576) (h : l < len) (hl : len ≤ 9223372036854775807) :
    Calls Try.prog 15 #[.agg #[.int .i64 n, .slice a len cap], .int .i64 l] w fun e w' => e = .returned (.int .i64 (-1)) ∧ Below w.heap.size w w' :=
  (szOrder_any n a len cap l w h0 h1 hl).mono (fun e w' hh => ⟨by rw [hh.1, szF, if_pos (by omega)], hh.2⟩)

theorem set_step (xs : List Int) (k : Nat) (h : k < xs.length) :
    ((xs.take k ++ List.replicate (xs.length - k) (0:Int)).map (Value.int .i64)).set k (.int .i64 (nth xs k)) = (xs.take (k+1) ++ List.replicate (xs.length - (k+1)) (0:Int)).map (Value.int .i64) := by
  apply List.ext_getElem?
  intro j
  have hk : (xs.take k).length = k := by simp; omega
  have hk1 : (xs.take (k+1)).length = k+1 := by simp; omega
  rw [List.getElem?_set]
  by_cases hj : k = j
  · subst hj
    rw [if_pos rfl, if_pos (by simp; omega), List.getElem?_map, List.getElem?_append_left (by omega)]
    simp [nth, h]
  · simp only [hj, if_false, List.getElem?_map, List.getElem?_append, hk, hk1, List.getElem?_take, List.getElem?_replicate]
    by_cases h1 : j < k
    · have h2 : j < k + 1 := by omega
      simp [h1, h2]
    · have h2 : ¬ j < k + 1 := by omega
      have h3 : j - k < xs.length - k ↔ j - (k+1) < xs.length - (k+1) := by omega
      simp [h1, h2, h3]
theorem toIntS_any (a : Option Addr) (xs : List Int) (cap : Nat) (w : World) (hx : Rd w a xs) (hn : xs.length ≤ 1048576) :
    Calls Try.prog 39 #[.slice a xs.length cap] w fun e w' => ∃ a' cap', e = .returned (.slice a' xs.length cap') ∧ OwnI w' w.heap.size (.slice a' xs.length cap') xs ∧ Below w.heap.size w w' := by
  obtain ⟨i0, hi, hz0, hz1, hz2⟩ := info_parts infoInt
  go_enter Try.func39, Try.ntmps39
  go_wp2_with (at_make; refine wpList_make_full _ rfl (.tmp 6) (.tmp 6) 23 rfl w.heap.size 3 i0 (.int .i64 0) 1 Try.underlying23 hi hz0 hz1 .i64 .i64 _ _ xs.length rfl rfl rfl rfl (by rw [hz2]; omega) (by unfold maxLen; omega) (Nat.le_refl _) ?_; intro w1 hown hgrow)
  have hb0 : Below w.heap.size w w1 := (Below.refl _ _).grown hgrow (Nat.le_refl _) (fun k h => by cases h)
  have hown0 : w1.ownsRow w.heap.size 3 1 (.slice (some ⟨w.heap.size, 0, none⟩) xs.length xs.length) xs.length ((xs.take 0 ++ List.replicate (xs.length - 0) (0:Int)).map (Value.int .i64)) := by
    simpa [Value.cells, toList_madeCells_one] using hown
  clear hown hgrow
  have hz : w.heap.size < w1.heap.size := by
    have := (World.ownsRow.lt hown0 w.heap.size rfl).2
    omega
  go_loopw [4] (fun i wr => ∃ k : Nat, k ≤ xs.length ∧ i = .int .i64 k ∧ wr.ownsRow w.heap.size 3 1 (.slice (some ⟨w.heap.size, 0, none⟩) xs.length xs.length) xs.length ((xs.take k ++ List.replicate (xs.length - k) (0:Int)).map (Value.int .i64)) ∧ Below w.heap.size w wr) (fun i _ => xs.length - (intOf i).toNat)
  case atStart => exact ⟨0, Nat.zero_le _, rfl, hown0, hb0⟩
  case round =>
    obtain ⟨k, hk, rfl, hown, hb⟩ := hrel
    by_cases hlt : k < xs.length
    · obtain ⟨b, off, rfl, hbl, hc⟩ := hx.cell k hlt
      have hc1 := (hb.cell (p := ⟨b, off + k, none⟩) hbl).trans hc
      have hst := World.ownsRow.stored hown k (.int .i64 (nth xs k))
      rw [set_step xs k hlt] at hst
      have hcc := World.ownsRow.cellAt hown k (by omega)
      have hfr := World.ownsRow.frozenAt hown k
      have hcc' : ∃ u, wr.cell? ⟨w.heap.size, k, none⟩ = some u := by
        rw [hcc]
        exact ⟨_, List.getElem?_eq_getElem (by simp; omega)⟩
      obtain ⟨u, hu⟩ := hcc'
      have Hst := Lib.hid hst
      clear hst hcc hown hc
      go_wp2
      go_roundw
      case rel => exact ⟨k + 1, by omega, by go_num, Hst.out.1, hb.setCell (Nat.le_refl _) _⟩
      case measure => simp [intOf]; omega
    · obtain rfl : k = xs.length := by omega
      go_wp2
      go_ret
      refine ⟨_, _, rfl, ?_, hb⟩
      have : xs.take xs.length ++ List.replicate (xs.length - xs.length) (0:Int) = xs := by simp
      rw [this] at hown
      exact hown

theorem toOrder_any (n : Int) (a : Option Addr) (xs : List Int) (cap : Nat) (w : World) (hx : Rd w a xs) (hn : xs.length ≤ 1048576) :
    Calls Try.prog 18 #[.agg #[.int .i64 n, .slice a xs.length cap]] w fun e w' => ∃ a' cap', e = .returned (.agg #[.int .i64 n, .slice a' xs.length cap']) ∧ OwnI w' w.heap.size (.slice a' xs.length cap') xs ∧ Below w.heap.size w w' := by
  go_enter Try.func18, Try.ntmps18
  go_wp2_with fail
  refine (toIntS_any _ _ _ _ (hx.below (by repeat (first | exact Below.refl _ _ | assumption | refine Below.alloc ?_ (by first | exact Nat.le_refl _ | (simp only [World.size_alloc, World.size_setCell, World.size_drew]; omega) | omega) _ | refine Below.setCell ?_ (by first | exact Nat.le_refl _ | (simp only [World.size_alloc, World.size_setCell, World.size_drew]; omega) | omega) _ | refine Below.drew ?_))) hn).mono ?_
  rintro e w1 ⟨a', cap', rfl, hown, hb⟩
  obtain ⟨hc, hf⟩ := bcell hb
  have hz := hb.size
  simp only [World.size_alloc, World.size_setCell] at hz
  go_wp2
  have hown' := ((((hown.setBelow (p := ⟨w.heap.size + 1 + 1, 1, none⟩) (by first | (simp only [World.size_alloc, World.size_setCell, World.size_drew]; omega) | omega) (.slice a' xs.length cap')).setBelow (p := ⟨w.heap.size + 1, 0, none⟩) (by first | (simp only [World.size_alloc, World.size_setCell, World.size_drew]; omega) | omega) (.int .i64 n)).setBelow (p := ⟨w.heap.size + 1, 1, none⟩) (by first | (simp only [World.size_alloc, World.size_setCell, World.size_drew]; omega) | omega) (.slice a' xs.length cap'))).mono (B' := w.heap.size) (by first | (simp only [World.size_alloc, World.size_setCell, World.size_drew]; omega) | omega)
  have hb' : Below w.heap.size w w1 := Below.trans (by repeat (first | exact Below.refl _ _ | assumption | refine Below.alloc ?_ (by first | exact Nat.le_refl _ | (simp only [World.size_alloc, World.size_setCell, World.size_drew]; omega) | omega) _ | refine Below.setCell ?_ (by first | exact Nat.le_refl _ | (simp only [World.size_alloc, World.size_setCell, World.size_drew]; omega) | omega) _ | refine Below.drew ?_)) (hb.mono (by first | (simp only [World.size_alloc, World.size_setCell, World.size_drew]; omega) | omega))
  refine bodyPost_ret (v := .agg #[.int .i64 n, .slice a' xs.length cap']) (by simp [results, Try.results18, go_sem, hc]) rfl ⟨a', cap', rfl, hown', ?_⟩
  exact ((hb'.setCell (by first | exact Nat.le_refl _ | (simp only [World.size_alloc, World.size_setCell, World.size_drew]; omega) | omega) _).setCell (by first | exact Nat.le_refl _ | (simp only [World.size_alloc, World.size_setCell, World.size_drew]; omega) | omega) _).setCell (by first | exact Nat.le_refl _ | (simp only [World.size_alloc, World.size_setCell, World.size_drew]; omega) | omega) _

def eqL (xs ys : List Int) : Bool := decide (xs = ys)
theorem eqL_self (xs : List Int) : eqL xs xs = true := by simp [eqL]

theorem eqIntS_any (a b : Option Addr) (xs ys : List Int) (ca cb : Nat) (w : World) (hx : Rd w a xs) (hy : Rd w b ys) :
    Calls Try.prog 26 #[.slice a xs.length ca, .slice b ys.length cb] w fun e w' => e = .returned (.bool (eqL xs ys)) ∧ Below w.heap.size w w' := by
  have hlx := hx.len
  have hly := hy.len
  by_cases hl : xs.length = ys.length
  · have hl' : ((xs.length : Int) != (ys.length : Int)) = false := by simp [hl]
    go_enter Try.func26, Try.ntmps26
    have HL := Lib.hid hl
    clear hl
    go_wp2_with fail
    go_loopw [5] (fun i wr => ∃ k : Nat, k ≤ xs.length ∧ i = .int .i64 k ∧ xs.take k = ys.take k ∧ Below w.heap.size w wr) (fun i _ => xs.length - (intOf i).toNat)
    case atStart => exact ⟨0, Nat.zero_le _, rfl, rfl, Below.refl _ _⟩
    case round =>
      obtain ⟨k, hk, rfl, htk, hb⟩ := hrel
      have HT := Lib.hid htk
      clear htk
      by_cases hlt : k < xs.length
      · have hlt' : k < ys.length := by rw [← HL.out]; exact hlt
        obtain ⟨b1, o1, rfl, hb1, hc1⟩ := (hx.below hb).cell k hlt
        obtain ⟨b2, o2, rfl, hb2, hc2⟩ := (hy.below hb).cell k hlt'
        by_cases he : nth xs k = nth ys k
        · have he' : (nth xs k != nth ys k) = false := by simp [he]
          have HE := Lib.hid he
          clear he
          go_wp2_with fail
          go_quiet (fail)
          go_wp2_with fail
          go_roundw
          case rel =>
            refine ⟨k + 1, by omega, by go_num, ?_, by exact hb.trans (Joins.below_draws _ _ _)⟩
            rw [List.take_succ_eq_append_getElem hlt, List.take_succ_eq_append_getElem hlt', HT.out, ← nth_get, ← nth_get, HE.out]
          case measure => simp [intOf]; omega
        · have he' : (nth xs k != nth ys k) = true := by simp [he]
          have hne : eqL xs ys = false := by
            simp only [eqL, decide_eq_false_iff_not]
            intro e
            subst e
            exact he rfl
          have HN := Lib.hid hne
          clear he hne
          go_wp2_with fail
          go_quiet (fail)
          go_wp2_with fail
          go_ret
          exact ⟨ret_bool HN.out.symm, hb.trans (Joins.below_draws _ _ _)⟩
      · go_wp2_with fail
        go_ret
        refine ⟨ret_bool ?_, hb⟩
        have h1 := HT.out
        rw [List.take_of_length_le (by omega), List.take_of_length_le (by rw [← HL.out]; omega)] at h1
        simp [eqL, h1]
  · have hl' : ((xs.length : Int) != (ys.length : Int)) = true := by simp; omega
    have hne : eqL xs ys = false := by
      simp only [eqL, decide_eq_false_iff_not]
      intro e
      exact hl (by rw [e])
    have HN := Lib.hid hne
    clear hl hne
    go_enter Try.func26, Try.ntmps26
    go_wp2_with fail
    go_ret
    exact ⟨ret_bool HN.out.symm, Below.refl _ _⟩

def eqO (n : Int) (xs : List Int) (m : Int) (ys : List Int) : Bool := decide (n = m) && eqL xs ys
theorem eqO_refl (n : Int) (xs : List Int) : eqO n xs n xs = true := by simp [eqO, eqL]

theorem eqOrder_any (n m : Int) (a b : Option Addr) (xs ys : List Int) (ca cb : Nat) (w : World) (hx : Rd w a xs) (hy : Rd w b ys) :
    Calls Try.prog 21 #[.agg #[.int .i64 n, .slice a xs.length ca], .agg #[.int .i64 m, .slice b ys.length cb]] w fun e w' => e = .returned (.bool (eqO n xs m ys)) ∧ Below w.heap.size w w' := by
  by_cases hn : n = m
  · have hn' : (n != m) = false := by simp [hn]
    have HN := Lib.hid hn
    clear hn
    cases he : eqL xs ys
    all_goals
      have HO : Hid (eqO n xs m ys = eqL xs ys) := by simp [Hid, eqO, HN.out]
      have HE := Lib.hid he
      clear he
      go_enter Try.func21, Try.ntmps21
      go_wp2_with fail
      refine (eqIntS_any _ _ xs ys _ _ _ (hx.below (by repeat (first | exact Below.refl _ _ | assumption | refine Below.alloc ?_ (by first | exact Nat.le_refl _ | (simp only [World.size_alloc, World.size_setCell, World.size_drew]; omega) | omega) _ | refine Below.setCell ?_ (by first | exact Nat.le_refl _ | (simp only [World.size_alloc, World.size_setCell, World.size_drew]; omega) | omega) _ | refine Below.drew ?_))) (hy.below (by repeat (first | exact Below.refl _ _ | assumption | refine Below.alloc ?_ (by first | exact Nat.le_refl _ | (simp only [World.size_alloc, World.size_setCell, World.size_drew]; omega) | omega) _ | refine Below.setCell ?_ (by first | exact Nat.le_refl _ | (simp only [World.size_alloc, World.size_setCell, World.size_drew]; omega) | omega) _ | refine Below.drew ?_)))).mono ?_
      rintro e w1 ⟨rfl, hb⟩
      rw [HE.out]
      obtain ⟨hc, hf⟩ := bcell hb
      go_wp2_with fail
      go_ret
      exact ⟨ret_bool (by rw [HO.out, HE.out]), Below.trans (by repeat (first | exact Below.refl _ _ | assumption | refine Below.alloc ?_ (by first | exact Nat.le_refl _ | (simp only [World.size_alloc, World.size_setCell, World.size_drew]; omega) | omega) _ | refine Below.setCell ?_ (by first | exact Nat.le_refl _ | (simp only [World.size_alloc, World.size_setCell, World.size_drew]; omega) | omega) _ | refine Below.drew ?_)) (hb.mono (by first | (simp only [World.size_alloc, World.size_setCell, World.size_drew]; omega) | omega))⟩
  · have hn' : (n != m) = true := by simp [hn]
    have HO : Hid (eqO n xs m ys = false) := by simp [Hid, eqO, hn]
    clear hn
    go_enter Try.func21, Try.ntmps21
    go_wp2_with fail
    go_ret
    exact ⟨ret_bool HO.out.symm, (by repeat (first | exact Below.refl _ _ | assumption | refine Below.alloc ?_ (by first | exact Nat.le_refl _ | (simp only [World.size_alloc, World.size_setCell, World.size_drew]; omega) | omega) _ | refine Below.setCell ?_ (by first | exact Nat.le_refl _ | (simp only [World.size_alloc, World.size_setCell, World.size_drew]; omega) | omega) _ | refine Below.drew ?_))⟩

theorem wrap64_small (n : Int) (h0 : -9223372036854775808 ≤ n) (h1 : n ≤ 9223372036854775807) : IntKind.i64.wrap n = n := by
  simp only [IntKind.wrap, IntKind.bits, IntKind.signed]
  simp
  omega
theorem i64_wrap (n : Int) : IntKind.i64.wrap n = wrap64 n := IntWalk.i64_left n
theorem ofInt_i64 (a : Nat) (ha : a < 9223372036854775808) : (BitVec.ofInt 64 (a : Int)).toNat = a := by
  simp
  omega
theorem and_nat (a b : Nat) (ha : a < 9223372036854775808) (hb : b < 9223372036854775808) : bits .and .i64 (a : Int) (b : Int) = ((a &&& b : Nat) : Int) := by
  have hx : a &&& b < 2 ^ 63 := Nat.and_lt_two_pow _ (by omega)
  show IntKind.i64.wrap ((BitVec.ofInt 64 (a : Int) &&& BitVec.ofInt 64 (b : Int)).toNat : Int) = _
  rw [BitVec.toNat_and, ofInt_i64 a ha, ofInt_i64 b hb, wrap64_small _ (by omega) (by omega)]
theorem or_nat (a b : Nat) (ha : a < 9223372036854775808) (hb : b < 9223372036854775808) : bits .or .i64 (a : Int) (b : Int) = ((a ||| b : Nat) : Int) := by
  have hx : a ||| b < 2 ^ 63 := Nat.or_lt_two_pow (by omega) (by omega)
  show IntKind.i64.wrap ((BitVec.ofInt 64 (a : Int) ||| BitVec.ofInt 64 (b : Int)).toNat : Int) = _
  rw [BitVec.toNat_or, ofInt_i64 a ha, ofInt_i64 b hb, wrap64_small _ (by omega) (by omega)]
/-- a set without the elements of another one -/
def sub (a b : Nat) : Nat := a ^^^ (a &&& b)
theorem testBit_sub (a b i : Nat) : (sub a b).testBit i = (a.testBit i && !b.testBit i) := by
  simp [sub, Nat.testBit_xor, Nat.testBit_and]
  cases a.testBit i <;> cases b.testBit i <;> rfl
theorem sub_lt {a b n : Nat} (h : a < 2 ^ n) : sub a b < 2 ^ n := by
  unfold sub
  exact Nat.xor_lt_two_pow h (by rw [Nat.and_comm]; exact Nat.and_lt_two_pow _ h)
theorem sub_nat (a b : Nat) (ha : a < 9223372036854775808) (hb : b < 9223372036854775808) : bits .andNot .i64 (a : Int) (b : Int) = ((sub a b : Nat) : Int) := by
  have hs : sub a b < 2 ^ 63 := sub_lt (by omega)
  show IntKind.i64.wrap ((BitVec.ofInt 64 (a : Int) &&& ~~~BitVec.ofInt 64 (b : Int)).toNat : Int) = _
  have e : (BitVec.ofInt 64 (a : Int) &&& ~~~BitVec.ofInt 64 (b : Int)).toNat = sub a b := by
    apply Nat.eq_of_testBit_eq
    intro i
    rw [BitVec.testBit_toNat, BitVec.getLsbD_and, BitVec.getLsbD_not, testBit_sub, ← BitVec.testBit_toNat, ← BitVec.testBit_toNat, ofInt_i64 a ha, ofInt_i64 b hb]
    by_cases hi : i < 64
    · simp [hi]
    · have : a.testBit i = false := Nat.testBit_lt_two_pow (Nat.lt_of_lt_of_le (by omega : a < 2 ^ 64) (Nat.pow_le_pow_right (by omega) (by omega)))
      simp [this]
  rw [e, wrap64_small _ (by omega) (by omega)]
theorem shr_nat (s i : Nat) (hs : s < 9223372036854775808) : (s : Int) / (2 ^ min i 64) = ((s >>> i : Nat) : Int) := by
  rw [Nat.shiftRight_eq_div_pow]
  by_cases h : i ≤ 64
  · rw [Nat.min_eq_left h]
    simp
  · rw [Nat.min_eq_right (by omega)]
    have : 2 ^ 64 ≤ 2 ^ i := Nat.pow_le_pow_right (by omega) (by omega)
    rw [Nat.div_eq_of_lt (by omega)]
    omega
theorem bit_and (s i : Nat) (hs : s < 9223372036854775808) : (bits .and .i64 ((s >>> i : Nat) : Int) 1 == 1) = s.testBit i := by
  have h1 : s >>> i ≤ s := by rw [Nat.shiftRight_eq_div_pow]; exact Nat.div_le_self _ _
  have := and_nat (s >>> i) 1 (by omega) (by omega)
  rw [show ((1 : Nat) : Int) = 1 from rfl] at this
  rw [this, Nat.testBit, Nat.and_one_is_mod, Nat.and_comm, Nat.and_one_is_mod]
  rcases Nat.mod_two_eq_zero_or_one (s >>> i) with h | h <;> simp [h]
theorem bit_mod (s i : Nat) : (((s >>> i : Nat) : Int) % 2 == 1) = s.testBit i := by
  rw [Nat.testBit, Nat.and_comm, Nat.and_one_is_mod]
  rcases Nat.mod_two_eq_zero_or_one (s >>> i) with h | h
  · have h2 : ((s >>> i : Nat) : Int) % 2 = 0 := by omega
    rw [h2, h]; rfl
  · have h2 : ((s >>> i : Nat) : Int) % 2 = 1 := by omega
    rw [h2, h]; rfl
theorem bit_tmod (s i : Nat) : (((s >>> i : Nat) : Int).tmod 2 == 1) = s.testBit i := by
  rw [Int.tmod_eq_emod_of_nonneg (Int.natCast_nonneg _), bit_mod]
/-- is i in the set s? -/
def hasB (s i : Int) : Bool := s.toNat.testBit i.toNat
theorem has_and {s i : Int} (h0 : 0 ≤ s) (h1 : s ≤ 9223372036854775807) (hi : 0 ≤ i) : (bits .and .i64 (s / 2 ^ min i.toNat 64) 1 == 1) = hasB s i := by
  obtain ⟨S, rfl⟩ := Int.eq_ofNat_of_zero_le h0
  rw [shr_nat S _ (by omega), bit_and S _ (by omega)]
  rfl
theorem has_mod {s i : Int} (h0 : 0 ≤ s) (h1 : s ≤ 9223372036854775807) (hi : 0 ≤ i) : ((s / 2 ^ min i.toNat 64).tmod 2 == 1) = hasB s i := by
  obtain ⟨S, rfl⟩ := Int.eq_ofNat_of_zero_le h0
  rw [shr_nat S _ (by omega), bit_tmod S]
  rfl
theorem pow_w {k : Nat} (h : k < 62) : wrap64 (2 ^ k) = ((2 ^ k : Nat) : Int) := by
  have : 2 ^ k ≤ 2 ^ 61 := Nat.pow_le_pow_right (by omega) (by omega)
  rw [show ((2:Int) ^ k) = ((2 ^ k : Nat) : Int) by simp]
  generalize hp : 2 ^ k = p at *
  exact IntWalk.wrap64_in _ ⟨by omega, by omega⟩
theorem or_bit {b k : Nat} (hb : b < 4611686018427387904) (hk : k < 62) : bits .or .i64 (b : Int) (wrap64 (2 ^ k)) = ((b ||| 2 ^ k : Nat) : Int) := by
  rw [pow_w hk]
  have : 2 ^ k ≤ 2 ^ 61 := Nat.pow_le_pow_right (by omega) (by omega)
  exact or_nat _ _ (by omega) (by omega)
theorem or_i {a b : Int} (ha : 0 ≤ a) (ha1 : a < 9223372036854775808) (hb : 0 ≤ b) (hb1 : b < 9223372036854775808) : bits .or .i64 a b = ((a.toNat ||| b.toNat : Nat) : Int) := by
  obtain ⟨A, rfl⟩ := Int.eq_ofNat_of_zero_le ha
  obtain ⟨B, rfl⟩ := Int.eq_ofNat_of_zero_le hb
  exact or_nat A B (by omega) (by omega)
theorem sub_i {a b : Int} (ha : 0 ≤ a) (ha1 : a < 9223372036854775808) (hb : 0 ≤ b) (hb1 : b < 9223372036854775808) : bits .andNot .i64 a b = ((sub a.toNat b.toNat : Nat) : Int) := by
  obtain ⟨A, rfl⟩ := Int.eq_ofNat_of_zero_le ha
  obtain ⟨B, rfl⟩ := Int.eq_ofNat_of_zero_le hb
  exact sub_nat A B (by omega) (by omega)
theorem or_lt {a b n : Nat} (ha : a < 2 ^ n) (hb : b < 2 ^ n) : a ||| b < 2 ^ n := Nat.or_lt_two_pow ha hb
theorem two_lt {k n : Nat} (h : k < n) : 2 ^ k < 2 ^ n := Nat.pow_lt_pow_right (by omega) h
theorem testBit_two (k i : Nat) : (2 ^ k).testBit i = decide (k = i) := Nat.testBit_two_pow

def inB (n lo hi : Int) : Bool := decide (lo ≤ n) && decide (n ≤ hi)
theorem inB_iff {n lo hi : Int} : inB n lo hi = true ↔ lo ≤ n ∧ n ≤ hi := by simp [inB]
theorem inB_no {n lo hi : Int} : inB n lo hi = false ↔ n < lo ∨ hi < n := by
  rw [← Bool.not_eq_true, inB_iff]
  omega

def allB (xs : List Int) (lo hi : Int) : Bool := xs.all (fun x => inB x lo hi)
theorem allB_take (xs : List Int) (lo hi : Int) (k : Nat) (h : k < xs.length) : allB (xs.take (k+1)) lo hi = (allB (xs.take k) lo hi && inB (nth xs k) lo hi) := by
  simp only [allB]
  rw [List.take_succ_eq_append_getElem h, List.all_append]
  simp [nth, h]
theorem allB_false {xs : List Int} {lo hi : Int} {k : Nat} (h : k < xs.length) (h1 : inB (nth xs k) lo hi = false) : allB xs lo hi = false := by
  simp only [allB, List.all_eq_false]
  exact ⟨xs[k], List.getElem_mem h, by simpa [nth, h] using h1⟩
theorem allB_nth {xs : List Int} {lo hi : Int} (h : allB xs lo hi = true) {k : Nat} (hk : k < xs.length) : lo ≤ nth xs k ∧ nth xs k ≤ hi := by
  simp only [allB, List.all_eq_true] at h
  have := inB_iff.1 (h _ (List.getElem_mem hk))
  rwa [← nth_get xs k hk] at this

/-- is it a relation? -/
def relB (n : Int) (xs : List Int) : Bool := inB n 0 10 && decide ((xs.length : Int) = n) && allB xs 0 (2 ^ n.toNat - 1)
theorem relB_iff {n : Int} {xs : List Int} : relB n xs = true ↔ (0 ≤ n ∧ n ≤ 10) ∧ (xs.length : Int) = n ∧ allB xs 0 (2 ^ n.toNat - 1) = true := by
  simp [relB, inB_iff, and_assoc]
theorem pow10 {n : Nat} (h : n ≤ 10) : (1 : Int) ≤ 2 ^ n ∧ (2 : Int) ^ n ≤ 1024 := by
  have h1 : 2 ^ n ≤ 2 ^ 10 := Nat.pow_le_pow_right (by omega) h
  have h2 : 1 ≤ 2 ^ n := Nat.one_le_two_pow
  have h3 : ((2 ^ n : Nat) : Int) = (2 : Int) ^ n := by simp
  omega
theorem full_eq {n : Int} (h0 : 0 ≤ n) (h1 : n ≤ 10) : wrap64 (wrap64 (2 ^ n.toNat) - 1) = 2 ^ n.toNat - 1 := by
  have h2 := pow10 (n := n.toNat) (by omega)
  generalize (2 : Int) ^ n.toNat = p at *
  rw [IntWalk.wrap64_in p ⟨by omega, by omega⟩, IntWalk.wrap64_in _ ⟨by omega, by omega⟩]
structure RelP (n : Int) (xs : List Int) : Prop where
  n0 : 0 ≤ n
  n1 : n ≤ 10
  len : (xs.length : Int) = n
  pos : ∀ k, k < xs.length → 0 ≤ nth xs k
  lt : ∀ k, k < xs.length → nth xs k < 2 ^ xs.length
  small : ∀ k, k < xs.length → nth xs k < 1024
theorem relB_p {n : Int} {xs : List Int} (h : relB n xs = true) : RelP n xs := by
  obtain ⟨⟨h0, h1⟩, h2, h3⟩ := relB_iff.1 h
  have e : n.toNat = xs.length := by omega
  rw [e] at h3
  have hp := pow10 (n := xs.length) (by omega)
  exact ⟨h0, h1, h2, fun k hk => (allB_nth h3 hk).1, fun k hk => by have := (allB_nth h3 hk).2; omega, fun k hk => by have := (allB_nth h3 hk).2; omega⟩

/-- the set of the indices below k of the lists that have i -/
def belowTo (xs : List Int) (i : Int) : Nat → Nat
  | 0 => 0
  | k+1 => if hasB (nth xs k) i then belowTo xs i k ||| 2 ^ k else belowTo xs i k
theorem belowTo_lt (xs : List Int) (i : Int) : ∀ k, belowTo xs i k < 2 ^ k
  | 0 => by simp [belowTo]
  | k+1 => by
    have h := belowTo_lt xs i k
    have h2 : 2 ^ k < 2 ^ (k+1) := two_lt (by omega)
    simp only [belowTo]
    split
    · exact or_lt (by omega) h2
    · omega
theorem belowTo_small (xs : List Int) (i : Int) {k : Nat} (h : k ≤ 10) : belowTo xs i k < 1024 := by
  have h1 := belowTo_lt xs i k
  have h2 : 2 ^ k ≤ 2 ^ 10 := Nat.pow_le_pow_right (by omega) h
  omega
theorem belowTo_bit (xs : List Int) (i : Int) (j : Nat) : ∀ k, (belowTo xs i k).testBit j = (decide (j < k) && hasB (nth xs j) i)
  | 0 => by simp [belowTo]
  | k+1 => by
    have h := belowTo_bit xs i j k
    simp only [belowTo]
    by_cases hjk : j = k
    · subst hjk
      cases hb : hasB (nth xs j) i
      · simp [h]
      · simp [Nat.testBit_or, testBit_two]
    · have e : decide (j < k + 1) = decide (j < k) := by
        rw [decide_eq_decide]; omega
      rw [e, ← h]
      have hkj : ¬ k = j := fun e => hjk e.symm
      cases hb : hasB (nth xs k) i <;> simp [Nat.testBit_or, testBit_two, hkj]

/-- the set of the elements that are indifferent to k -/
def freeN (xs : List Int) (k : Nat) : Nat := sub (2 ^ xs.length - 1) (((nth xs k).toNat ||| belowTo xs k xs.length) ||| 2 ^ k)
theorem free_val {n : Int} {xs : List Int} (hp : RelP n xs) {k : Nat} (hk : k < xs.length) :
    bits .andNot .i64 (wrap64 (wrap64 (2 ^ n.toNat) - 1)) (bits .or .i64 (bits .or .i64 (nth xs k) ((belowTo xs k xs.length : Nat) : Int)) (wrap64 (2 ^ k))) = ((freeN xs k : Nat) : Int) := by
  have hl := hp.len
  have hn := hp.n1
  have h0 := hp.n0
  have e : n.toNat = xs.length := by omega
  have hs := hp.small k hk
  have h1 := hp.pos k hk
  have hb := belowTo_small xs k (k := xs.length) (by omega)
  have hpw := pow10 (n := xs.length) (by omega)
  rw [full_eq h0 hn, e]
  rw [or_i h1 (by omega) (by omega) (by omega)]
  have ho : (nth xs k).toNat ||| (belowTo xs k xs.length) < 2 ^ 10 := or_lt (by omega) (by omega)
  rw [show (((belowTo xs k xs.length : Nat) : Int)).toNat = belowTo xs k xs.length from rfl]
  rw [or_bit (by omega) (by omega)]
  have ho2 : ((nth xs k).toNat ||| (belowTo xs k xs.length)) ||| 2 ^ k < 2 ^ 10 := or_lt ho (two_lt (by omega))
  rw [sub_i (by omega) (by omega) (by omega) (by omega)]
  have e2 : ((2:Int) ^ xs.length - 1).toNat = 2 ^ xs.length - 1 := by
    have : ((2 ^ xs.length : Nat) : Int) = (2 : Int) ^ xs.length := by simp
    omega
  rw [e2]
  rfl
theorem free_val2 {n : Int} {xs : List Int} (hp : RelP n xs) {k : Nat} (hk : k < xs.length) :
    bits .andNot .i64 (2 ^ n.toNat - 1) (bits .or .i64 (bits .or .i64 (nth xs k) ((belowTo xs k xs.length : Nat) : Int)) (wrap64 (2 ^ k))) = ((freeN xs k : Nat) : Int) := by
  rw [← free_val hp hk, full_eq hp.n0 hp.n1]

/-- the elements of a set that are less than k, in order -/
def elemsTo (s : Nat) : Nat → List Int
  | 0 => []
  | k+1 => if s.testBit k then elemsTo s k ++ [(k : Int)] else elemsTo s k
theorem elemsTo_len (s : Nat) : ∀ k, (elemsTo s k).length ≤ k
  | 0 => by simp [elemsTo]
  | k+1 => by
    have := elemsTo_len s k
    simp only [elemsTo]
    split <;> simp <;> omega
theorem mem_elemsTo (s : Nat) (x : Int) : ∀ k, x ∈ elemsTo s k ↔ ∃ i : Nat, i < k ∧ s.testBit i = true ∧ x = i
  | 0 => by simp [elemsTo]
  | k+1 => by
    have ih := mem_elemsTo s x k
    simp only [elemsTo]
    cases hb : s.testBit k
    · rw [if_neg (by simp), ih]
      constructor
      · rintro ⟨i, h1, h2, h3⟩
        exact ⟨i, by omega, h2, h3⟩
      · rintro ⟨i, h1, h2, h3⟩
        have : i ≠ k := fun e => by rw [e, hb] at h2; cases h2
        exact ⟨i, by omega, h2, h3⟩
    · rw [if_pos rfl, List.mem_append, ih]
      constructor
      · rintro (⟨i, h1, h2, h3⟩ | h)
        · exact ⟨i, by omega, h2, h3⟩
        · exact ⟨k, by omega, hb, by simpa using h⟩
      · rintro ⟨i, h1, h2, h3⟩
        by_cases e : i = k
        · exact .inr (by simp [h3, e])
        · exact .inl ⟨i, by omega, h2, h3⟩
theorem elemsTo_more (s k : Nat) (h : s >>> k = 0) : ∀ m, elemsTo s (k + m) = elemsTo s k
  | 0 => rfl
  | m+1 => by
    have hb : s.testBit (k + m) = false := by
      rw [Nat.testBit]
      have : s >>> (k + m) = 0 := by rw [Nat.shiftRight_add, h]; simp
      simp [this]
    show elemsTo s (k + m + 1) = _
    simp only [elemsTo, hb]
    exact elemsTo_more s k h m
/-- all elements of a set below 1024 -/
def elems (s : Nat) : List Int := elemsTo s 10
theorem elems_at {s k : Nat} (h : s >>> k = 0) (hk : k ≤ 10) : elemsTo s k = elems s := by
  have := elemsTo_more s k h (10 - k)
  rw [show k + (10 - k) = 10 from by omega] at this
  exact this.symm
theorem elems_len (s : Nat) : (elems s).length ≤ 10 := elemsTo_len s 10
theorem mem_elems {s : Nat} (hs : s < 1024) {x : Int} : x ∈ elems s ↔ ∃ i : Nat, s.testBit i = true ∧ x = i := by
  rw [elems, mem_elemsTo]
  constructor
  · rintro ⟨i, _, h2, h3⟩
    exact ⟨i, h2, h3⟩
  · rintro ⟨i, h2, h3⟩
    refine ⟨i, ?_, h2, h3⟩
    rcases Nat.lt_or_ge i 10 with h | h
    · exact h
    · have : s < 2 ^ i := Nat.lt_of_lt_of_le hs (Nat.pow_le_pow_right (by omega : 0 < 2) h)
      rw [Nat.testBit_lt_two_pow this] at h2
      cases h2
theorem nth_mem {xs : List Int} {k : Nat} (h : k < xs.length) : nth xs k ∈ xs := by
  rw [nth_get xs k h]; exact List.getElem_mem h
theorem mem_nth {xs : List Int} {x : Int} (h : x ∈ xs) : ∃ k, k < xs.length ∧ nth xs k = x := by
  obtain ⟨k, hk, e⟩ := List.getElem_of_mem h
  exact ⟨k, hk, by rw [nth_get xs k hk, e]⟩

def okAtB (xs : List Int) (k : Nat) : Bool := !hasB (nth xs k) k && (List.range xs.length).all (fun j => !hasB (nth xs k) j || sub (nth xs j).toNat (nth xs k).toNat == 0)
/-- is it an order? -/
def ordB (n : Int) (xs : List Int) : Bool := relB n xs && (List.range xs.length).all (okAtB xs)
theorem okAtB_iff {xs : List Int} {k : Nat} : okAtB xs k = true ↔ hasB (nth xs k) k = false ∧ ∀ j, j < xs.length → hasB (nth xs k) j = true → sub (nth xs j).toNat (nth xs k).toNat = 0 := by
  simp only [okAtB, Bool.and_eq_true, Bool.not_eq_true', List.all_eq_true, List.mem_range, Bool.or_eq_true, beq_iff_eq]
  constructor
  · rintro ⟨h1, h2⟩
    exact ⟨h1, fun j hj hb => (h2 j hj).resolve_left (by simp [hb])⟩
  · rintro ⟨h1, h2⟩
    refine ⟨h1, fun j hj => ?_⟩
    cases hb : hasB (nth xs k) j
    · exact .inl rfl
    · exact .inr (h2 j hj hb)
theorem ordB_iff {n : Int} {xs : List Int} : ordB n xs = true ↔ relB n xs = true ∧ ∀ k, k < xs.length → okAtB xs k = true := by
  simp [ordB]
theorem ordB_no {n : Int} {xs : List Int} {k : Nat} (hk : k < xs.length) (h : okAtB xs k = false) : ordB n xs = false := by
  rw [← Bool.not_eq_true, ordB_iff]
  rintro ⟨_, h2⟩
  rw [h2 k hk] at h
  cases h
theorem okAtB_has {xs : List Int} {k : Nat} (h : hasB (nth xs k) k = true) : okAtB xs k = false := by
  simp [okAtB, h]
theorem okAtB_sub {xs : List Int} {k j : Nat} (hj : j < xs.length) (h : hasB (nth xs k) j = true) (h2 : sub (nth xs j).toNat (nth xs k).toNat ≠ 0) : okAtB xs k = false := by
  rw [← Bool.not_eq_true, okAtB_iff]
  rintro ⟨_, h3⟩
  exact h2 (h3 j hj h)
theorem sub_zero {a b : Nat} : sub a b = 0 ↔ ∀ i, a.testBit i = true → b.testBit i = true := by
  constructor
  · intro h i hi
    have := testBit_sub a b i
    rw [h, hi] at this
    simpa using this.symm
  · intro h
    apply Nat.eq_of_testBit_eq
    intro i
    rw [testBit_sub]
    cases ha : a.testBit i
    · simp
    · simp [h i ha]
theorem has_lt {n : Int} {xs : List Int} (hp : RelP n xs) {k : Nat} (hk : k < xs.length) {j : Nat} (h : hasB (nth xs k) j = true) : j < xs.length := by
  rcases Nat.lt_or_ge j xs.length with h' | h'
  · exact h'
  · have h1 := hp.lt k hk
    have h0 := hp.pos k hk
    have h2 : (nth xs k).toNat < 2 ^ j := by
      have : (2 : Nat) ^ xs.length ≤ 2 ^ j := Nat.pow_le_pow_right (by omega) h'
      have e : ((2 ^ xs.length : Nat) : Int) = (2 : Int) ^ xs.length := by simp
      omega
    simp only [hasB] at h
    rw [Int.toNat_natCast, Nat.testBit_lt_two_pow h2] at h
    cases h

theorem ord_rel {n : Int} {xs : List Int} (h : ordB n xs = true) : RelP n xs := relB_p (ordB_iff.1 h).1

/-- are two elements indifferent to each other? -/
def frB (xs : List Int) (a d : Nat) : Bool := (freeN xs a).testBit d
theorem frB_iff {n : Int} {xs : List Int} (hp : RelP n xs) {a d : Nat} (ha : a < xs.length) : frB xs a d = true ↔ d < xs.length ∧ hasB (nth xs a) d = false ∧ hasB (nth xs d) a = false ∧ d ≠ a := by
  unfold frB freeN
  have fb : ∀ n i : Nat, (2 ^ n - 1).testBit i = decide (i < n) := fun n i => Nat.testBit_two_pow_sub_one n i
  rw [testBit_sub, fb, Nat.testBit_or, Nat.testBit_or, belowTo_bit, testBit_two]
  simp only [Bool.and_eq_true, decide_eq_true_eq, Bool.not_eq_true', Bool.or_eq_false_iff, Bool.and_eq_false_iff, decide_eq_false_iff_not]
  constructor
  · rintro ⟨h1, ⟨h2, h3⟩, h4⟩
    refine ⟨h1, h2, ?_, fun e => h4 e.symm⟩
    rcases h3 with h3 | h3
    · exact absurd h1 h3
    · exact h3
  · rintro ⟨h1, h2, h3, h4⟩
    exact ⟨h1, ⟨h2, .inr h3⟩, fun e => h4 e.symm⟩

/-- the weight of the demand from i to j, if there is one -/
def wtF (xs : List Int) (t : Int) (i j : Nat) : Option Int := if hasB (nth xs i) j then some t else if frB xs i j then some (1 - t) else none
def wtV (xs : List Int) (t : Int) (i j : Nat) : Int := (wtF xs t i j).getD 0
def wtO (xs : List Int) (t : Int) (i j : Nat) : Bool := (wtF xs t i j).isSome
theorem wt_yes {xs : List Int} {t : Int} {i j : Nat} (h : hasB (nth xs i) j = true) : wtF xs t i j = some t := by rw [wtF, if_pos h]
theorem wt_free {xs : List Int} {t : Int} {i j : Nat} (h : hasB (nth xs i) j = false) (h2 : frB xs i j = true) : wtF xs t i j = some (1 - t) := by rw [wtF, if_neg (by simp [h]), if_pos h2]
theorem wt_no {xs : List Int} {t : Int} {i j : Nat} (h : hasB (nth xs i) j = false) (h2 : frB xs i j = false) : wtF xs t i j = none := by rw [wtF, if_neg (by simp [h]), if_neg (by simp [h2])]
theorem wt_bd {xs : List Int} {t : Int} {i j : Nat} {w : Int} (h0 : 1 ≤ t) (h1 : t ≤ 10) (h : wtF xs t i j = some w) : -9 ≤ w ∧ w ≤ 10 := by
  unfold wtF at h
  split at h
  · simp only [Option.some.injEq] at h; omega
  · split at h
    · simp only [Option.some.injEq] at h; omega
    · cases h
theorem wtV_bd {xs : List Int} {t : Int} {i j : Nat} (h0 : 1 ≤ t) (h1 : t ≤ 10) : -9 ≤ wtV xs t i j ∧ wtV xs t i j ≤ 10 := by
  unfold wtV
  cases h : wtF xs t i j with
  | none => simp
  | some w => have := wt_bd h0 h1 h; simpa using this

/-- the list of f 0, .., f (k - 1) -/
def fmap (f : Nat → Int) (k : Nat) : List Int := (List.range k).map f
theorem fmap_len (f : Nat → Int) (k : Nat) : (fmap f k).length = k := by simp [fmap]
theorem fmap_nth (f : Nat → Int) {k i : Nat} (h : i < k) : nth (fmap f k) i = f i := by simp [nth, fmap, h]
theorem fmap_succ (f : Nat → Int) (k : Nat) : fmap f (k+1) = fmap f k ++ [f k] := by simp [fmap, List.range_succ]
/-- one store more into a row that was made -/
theorem fill_step (f : Nat → Int) (m k : Nat) (h : k < m) :
    ((fmap f k ++ List.replicate (m - k) (0:Int)).map (Value.int .i64)).set k (.int .i64 (f k)) = (fmap f (k+1) ++ List.replicate (m - (k+1)) (0:Int)).map (Value.int .i64) := by
  apply List.ext_getElem?
  intro j
  rw [List.getElem?_set]
  by_cases hj : k = j
  · subst hj
    rw [if_pos rfl, if_pos (by simp [fmap_len]; omega), List.getElem?_map, List.getElem?_append_left (by rw [fmap_len]; omega)]
    simp [fmap]
  · simp only [hj, if_false, List.getElem?_map, List.getElem?_append, fmap_len, List.getElem?_replicate]
    by_cases h1 : j < k
    · have h2 : j < k + 1 := by omega
      simp [h1, h2, fmap]
    · have h2 : ¬ j < k + 1 := by omega
      have h3 : j - k < m - k ↔ j - (k+1) < m - (k+1) := by omega
      simp [h1, h2, h3]
theorem fill_end (f : Nat → Int) (m : Nat) : fmap f m ++ List.replicate (m - m) (0:Int) = fmap f m := by simp
/-- the row that a make of m integers has made -/
theorem made_ints {w1 : World} {B : Nat} {v : Value} {m : Nat} (f : Nat → Int) (h : w1.ownsRow B 3 1 v m (madeCells (Value.int .i64 0).cells (m * 1)).toList) :
    w1.ownsRow B 3 1 v m ((fmap f 0 ++ List.replicate (m - 0) (0:Int)).map (Value.int .i64)) := by
  simpa [Value.cells, toList_madeCells_one, fmap] using h

/-- a row of m integers of which the first k are filled, f 0 .. -/
def rowF (f : Nat → Int) (m k : Nat) : List Int := fmap f k ++ List.replicate (m - k) 0
theorem rowF_len (f : Nat → Int) {m k : Nat} (h : k ≤ m) : (rowF f m k).length = m := by simp [rowF, fmap_len]; omega
theorem rowF_set (f : Nat → Int) {m k : Nat} (h : k < m) : (rowF f m k).set k (f k) = rowF f m (k+1) := by
  apply List.ext_getElem?
  intro j
  rw [List.getElem?_set]
  by_cases hj : k = j
  · subst hj
    rw [if_pos rfl, if_pos (by rw [rowF_len f (by omega)]; exact h), rowF, List.getElem?_append_left (by rw [fmap_len]; omega)]
    simp [fmap]
  · simp only [hj, if_false, rowF, List.getElem?_append, fmap_len, List.getElem?_replicate]
    by_cases h1 : j < k
    · have h2 : j < k + 1 := by omega
      simp [h1, h2, fmap]
    · have h2 : ¬ j < k + 1 := by omega
      have h3 : j - k < m - k ↔ j - (k+1) < m - (k+1) := by omega
      simp [h1, h2, h3]
theorem rowF_zero (f : Nat → Int) {m k : Nat} (h : k < m) : (rowF f m k).set k 0 = rowF f m k := by
  apply List.ext_getElem?
  intro j
  rw [List.getElem?_set]
  by_cases hj : k = j
  · subst hj
    rw [if_pos rfl, if_pos (by rw [rowF_len f (by omega)]; exact h), rowF, List.getElem?_append_right (by rw [fmap_len]; omega)]
    rw [fmap_len, Nat.sub_self, List.getElem?_replicate, if_pos (by omega)]
  · simp [hj]
theorem rowF_end (f : Nat → Int) (m : Nat) : rowF f m m = fmap f m := by simp [rowF]
theorem made_row {w1 : World} {B : Nat} {v : Value} {m : Nat} (f : Nat → Int) (h : w1.ownsRow B 3 1 v m (madeCells (Value.int .i64 0).cells (m * 1)).toList) : OwnI w1 B v (rowF f m 0) := by
  unfold OwnI
  rw [rowF_len f (Nat.zero_le _)]
  simpa [Value.cells, toList_madeCells_one, fmap, rowF] using h

/-- one step of the closing: what is above k goes to i, if k is above i -/
def clStep (xs : List Int) (k i : Nat) : List Int := if hasB (nth xs i) k then xs.set i (((nth xs i).toNat ||| (nth xs k).toNat : Nat) : Int) else xs
def clRow (xs : List Int) (k : Nat) : Nat → List Int
  | 0 => xs
  | i+1 => clStep (clRow xs k i) k i
def clAll (xs : List Int) : Nat → List Int
  | 0 => xs
  | k+1 => clRow (clAll xs k) k xs.length
theorem clStep_len (xs : List Int) (k i : Nat) : (clStep xs k i).length = xs.length := by
  unfold clStep; split <;> simp
theorem clRow_len (xs : List Int) (k : Nat) : ∀ i, (clRow xs k i).length = xs.length
  | 0 => rfl
  | i+1 => by rw [clRow, clStep_len, clRow_len xs k i]
theorem clAll_len (xs : List Int) : ∀ k, (clAll xs k).length = xs.length
  | 0 => rfl
  | k+1 => by rw [clAll, clRow_len, clAll_len xs k]
/-- all numbers of a list are sets below 1024 -/
def Small (xs : List Int) : Prop := ∀ k, k < xs.length → 0 ≤ nth xs k ∧ nth xs k < 1024
theorem nth_set {xs : List Int} {i j : Nat} {x : Int} (hi : i < xs.length) : nth (xs.set i x) j = if i = j then x else nth xs j := by
  simp only [nth, List.getD_eq_getElem?_getD, List.getElem?_set]
  by_cases h : i = j
  · subst h; simp [hi]
  · simp [h]
theorem clStep_small {xs : List Int} (h : Small xs) {k i : Nat} (hk : k < xs.length) (hi : i < xs.length) : Small (clStep xs k i) := by
  unfold clStep
  split
  · intro j hj
    rw [nth_set hi]
    have h1 := h i hi
    have h2 := h k hk
    split
    · have : (nth xs i).toNat ||| (nth xs k).toNat < 2 ^ 10 := or_lt (by omega) (by omega)
      omega
    · exact h j (by simpa using hj)
  · exact h
theorem clRow_small {xs : List Int} (h : Small xs) {k : Nat} (hk : k < xs.length) : ∀ i, i ≤ xs.length → Small (clRow xs k i)
  | 0, _ => h
  | i+1, hi => clStep_small (clRow_small h hk i (by omega)) (by rw [clRow_len]; exact hk) (by rw [clRow_len]; omega)
theorem clAll_small {xs : List Int} (h : Small xs) : ∀ k, k ≤ xs.length → Small (clAll xs k)
  | 0, _ => h
  | k+1, hk => clRow_small (clAll_small h k (by omega)) (by rw [clAll_len]; omega) _ (by rw [clAll_len]; omega)
theorem RelP.sm {n : Int} {xs : List Int} (h : RelP n xs) : Small xs := fun k hk => ⟨h.pos k hk, h.small k hk⟩
theorem set_ints (xs : List Int) (i : Nat) (x : Int) : (xs.map (Value.int .i64)).set i (.int .i64 x) = (xs.set i x).map (Value.int .i64) := by
  rw [List.map_set]
/-- a store into an owned row -/
theorem OwnI.put {w : World} {B g n cap : Nat} {xs : List Int} (h : OwnI w B (.slice (some ⟨g, 0, none⟩) n cap) xs) (hn : n = xs.length) (i : Nat) (x : Int) :
    OwnI (w.setCell ⟨g, i, none⟩ (.int .i64 x)) B (.slice (some ⟨g, 0, none⟩) n cap) (xs.set i x) ∧ w.grownBy (w.setCell ⟨g, i, none⟩ (.int .i64 x)) (some g) := by
  subst hn
  have hst := World.ownsRow.stored h i (.int .i64 x)
  rw [set_ints] at hst
  refine ⟨?_, hst.2⟩
  unfold OwnI
  rw [List.length_set]
  exact hst.1
theorem OwnI.at' {w : World} {B g n cap : Nat} {xs : List Int} (h : OwnI w B (.slice (some ⟨g, 0, none⟩) n cap) xs) (hn : n = xs.length) {i : Nat} (hi : i < xs.length) :
    w.cell? ⟨g, i, none⟩ = some (.int .i64 (nth xs i)) ∧ w.frozen? ⟨g, i, none⟩ = false := by
  subst hn
  refine ⟨?_, World.ownsRow.frozenAt h i⟩
  rw [World.ownsRow.cellAt h i (by omega)]
  simp [nth, hi]
theorem OwnI.head {w : World} {B n cap : Nat} {a : Option Addr} {xs : List Int} (h : OwnI w B (.slice a n cap) xs) (hp : 0 < xs.length) : ∃ g, a = some ⟨g, 0, none⟩ ∧ B ≤ g ∧ g < w.heap.size := by
  rcases h.2 with ⟨e, h0⟩ | ⟨g, c, cur, e, hb, hg, _⟩
  · omega
  · simp only [Value.slice.injEq] at e
    exact ⟨g, e.1, hb, (Array.getElem?_eq_some_iff.1 hg).1⟩
def cloN (n : Int) (xs : List Int) : Int := if relB n xs then n else 0
def cloL (n : Int) (xs : List Int) : List Int := if relB n xs then clAll xs xs.length else []
theorem cloL_len (n : Int) (xs : List Int) : (cloL n xs).length ≤ 1048576 := by
  unfold cloL
  split
  · rename_i h
    have hp := relB_p h
    have := hp.len
    have := hp.n1
    rw [clAll_len]
    omega
  · simp

/-- places, reasons, and the element changed last in the round, or -1 -/
structure Rnd where
  P : List Int
  R : List Int
  L : Int
/-- what a demand from i does to the element j -/
def stepR (xs : List Int) (t : Int) (s : Rnd) (j i : Nat) : Rnd :=
  if wtO xs t i j = true ∧ nth s.P j < nth s.P i + wtV xs t i j then ⟨s.P.set j (nth s.P i + wtV xs t i j), s.R.set j i, j⟩ else s
def rowR (xs : List Int) (t : Int) (s : Rnd) (j : Nat) : Nat → Rnd
  | 0 => s
  | i+1 => stepR xs t (rowR xs t s j i) j i
def rndR (xs : List Int) (t : Int) (s : Rnd) : Nat → Rnd
  | 0 => s
  | j+1 => rowR xs t (rndR xs t s j) j xs.length
/-- the state behind k rounds -/
def rnds (xs : List Int) (t : Int) : Nat → Rnd
  | 0 => ⟨List.replicate xs.length 0, List.replicate xs.length 0, -1⟩
  | k+1 => rndR xs t ⟨(rnds xs t k).P, (rnds xs t k).R, -1⟩ xs.length
/-- what holds of a state: m steps at most have been made -/
structure Bd (n m : Nat) (s : Rnd) : Prop where
  lp : s.P.length = n
  lr : s.R.length = n
  p0 : ∀ k, k < n → 0 ≤ nth s.P k ∧ nth s.P k ≤ 10 * m
  r0 : ∀ k, k < n → 0 ≤ nth s.R k ∧ nth s.R k < n
  l0 : -1 ≤ s.L ∧ s.L < n
theorem Bd.step {xs : List Int} {t : Int} (h0 : 1 ≤ t) (h1 : t ≤ 10) {m : Nat} {s : Rnd} (h : Bd xs.length m s) {j i : Nat} (hj : j < xs.length) (hi : i < xs.length) : Bd xs.length (m+1) (stepR xs t s j i) := by
  have hw := wtV_bd (xs := xs) (i := i) (j := j) h0 h1
  have pj := h.p0 j hj
  have pi := h.p0 i hi
  unfold stepR
  split
  · rename_i hc
    refine ⟨by simp [h.lp], by simp [h.lr], fun k hk => ?_, fun k hk => ?_, by show -1 ≤ (j : Int) ∧ (j : Int) < xs.length; omega⟩
    · show 0 ≤ nth (s.P.set j _) k ∧ nth (s.P.set j _) k ≤ _
      rw [nth_set (by rw [h.lp]; exact hj)]
      have := h.p0 k hk
      split <;> omega
    · show 0 ≤ nth (s.R.set j _) k ∧ nth (s.R.set j _) k < _
      rw [nth_set (by rw [h.lr]; exact hj)]
      have := h.r0 k hk
      split <;> omega
  · exact ⟨h.lp, h.lr, fun k hk => by have := h.p0 k hk; omega, h.r0, h.l0⟩
theorem Bd.mono {n m m' : Nat} {s : Rnd} (h : Bd n m s) (hm : m ≤ m') : Bd n m' s := ⟨h.lp, h.lr, fun k hk => by have := h.p0 k hk; omega, h.r0, h.l0⟩
theorem Bd.row {xs : List Int} {t : Int} (h0 : 1 ≤ t) (h1 : t ≤ 10) {m : Nat} {s : Rnd} (h : Bd xs.length m s) {j : Nat} (hj : j < xs.length) : ∀ i, i ≤ xs.length → Bd xs.length (m+i) (rowR xs t s j i)
  | 0, _ => h
  | i+1, hi => (Bd.row h0 h1 h hj i (by omega)).step h0 h1 hj (by omega)
theorem Bd.rnd {xs : List Int} {t : Int} (h0 : 1 ≤ t) (h1 : t ≤ 10) {m : Nat} {s : Rnd} (h : Bd xs.length m s) : ∀ j, j ≤ xs.length → Bd xs.length (m + j * xs.length) (rndR xs t s j)
  | 0, _ => h.mono (by omega)
  | j+1, hj => ((Bd.rnd h0 h1 h j (by omega)).row h0 h1 (by omega) xs.length (Nat.le_refl _)).mono (by rw [Nat.succ_mul]; omega)
theorem zeros_nth (n k : Nat) : nth (List.replicate n (0:Int)) k = 0 := by
  simp only [nth, List.getD_eq_getElem?_getD, List.getElem?_replicate]
  split <;> rfl
theorem rnds_bd {xs : List Int} {t : Int} (h0 : 1 ≤ t) (h1 : t ≤ 10) : ∀ k, Bd xs.length (k * (xs.length * xs.length)) (rnds xs t k)
  | 0 => by
    refine ⟨by simp [rnds], by simp [rnds], fun k hk => ?_, fun k hk => ?_, by simp [rnds]; omega⟩
    · simp [rnds, zeros_nth]
    · simp only [rnds, zeros_nth]; omega
  | k+1 => by
    have h := rnds_bd h0 h1 (xs := xs) k
    have h2 : Bd xs.length (k * (xs.length * xs.length)) ⟨(rnds xs t k).P, (rnds xs t k).R, -1⟩ := ⟨h.lp, h.lr, h.p0, h.r0, by show (-1 : Int) ≤ -1 ∧ (-1 : Int) < xs.length; omega⟩
    exact (h2.rnd h0 h1 xs.length (Nat.le_refl _)).mono (by rw [Nat.succ_mul]; omega)
/-- a round that ends with -1 has changed nothing -/
theorem step_same {xs : List Int} {t : Int} {s : Rnd} {j i : Nat} (h : (stepR xs t s j i).L < 0) : stepR xs t s j i = s := by
  unfold stepR at h ⊢
  split
  · rename_i hc
    rw [if_pos hc] at h
    simp only at h
    omega
  · rfl
theorem row_same {xs : List Int} {t : Int} {s : Rnd} {j : Nat} : ∀ i, (rowR xs t s j i).L < 0 → rowR xs t s j i = s
  | 0, _ => rfl
  | i+1, h => by
    have e := step_same h
    show stepR xs t (rowR xs t s j i) j i = s
    rw [e]
    exact row_same i (by rw [show rowR xs t s j (i+1) = stepR xs t (rowR xs t s j i) j i from rfl, e] at h; exact h)
theorem rnd_same {xs : List Int} {t : Int} {s : Rnd} : ∀ j, (rndR xs t s j).L < 0 → rndR xs t s j = s
  | 0, _ => rfl
  | j+1, h => by
    have e := row_same _ h
    show rowR xs t (rndR xs t s j) j xs.length = s
    rw [e]
    exact rnd_same j (by rw [show rndR xs t s (j+1) = rowR xs t (rndR xs t s j) j xs.length from rfl, e] at h; exact h)
theorem rnds_stop {xs : List Int} {t : Int} {k : Nat} (h : (rnds xs t (k+1)).L < 0) : rnds xs t (k+2) = rnds xs t (k+1) := by
  have e := rnd_same _ h
  have e2 : rnds xs t (k+1) = ⟨(rnds xs t k).P, (rnds xs t k).R, -1⟩ := e
  show rndR xs t ⟨(rnds xs t (k+1)).P, (rnds xs t (k+1)).R, -1⟩ xs.length = rnds xs t (k+1)
  conv => lhs; rw [e2]
  exact e.trans e2.symm
theorem rnds_stop' {xs : List Int} {t : Int} {k : Nat} (h0 : 0 < k) (h : (rnds xs t k).L < 0) : ∀ m, rnds xs t (k + m) = rnds xs t k
  | 0 => rfl
  | m+1 => by
    have ih := rnds_stop' h0 h m
    obtain ⟨q, rfl⟩ : ∃ q, k = q + 1 := ⟨k - 1, by omega⟩
    have e : q + 1 + m = (q + m) + 1 := by omega
    rw [e] at ih
    have := rnds_stop (k := q + m) (by rw [ih]; exact h)
    show rnds xs t (q + 1 + m + 1) = _
    rw [show q + 1 + m + 1 = q + m + 2 from by omega, this, ih]
/-- the state in the end -/
def fin (xs : List Int) (t : Int) : Rnd := rnds xs t (xs.length + 1)
def opn (xs : List Int) (t : Int) : Bool := decide (0 ≤ (fin xs t).L)
def lpOk (n : Int) (xs : List Int) (t : Int) : Bool := ordB n xs && inB t 1 10
def lpB (n : Int) (xs : List Int) (t : Int) : Bool := lpOk n xs t && !opn xs t
def lpL (n : Int) (xs : List Int) (t : Int) : List Int := if lpB n xs t then (fin xs t).P else []
theorem lpL_len (n : Int) (xs : List Int) (t : Int) : (lpL n xs t).length ≤ 1048576 := by
  unfold lpL
  split
  · rename_i h
    simp only [lpB, lpOk, Bool.and_eq_true] at h
    obtain ⟨⟨h1, h2⟩, _⟩ := h
    have hp := ord_rel h1
    have ht := inB_iff.1 h2
    have := (rnds_bd ht.1 ht.2 (xs := xs) (xs.length + 1)).lp
    have := hp.len
    have := hp.n1
    unfold fin
    omega
  · simp

/-- the first answer that a function gives below n -/
def find1 {α : Type} (f : Nat → Option α) (n : Nat) : Option α := (List.range n).findSome? f
theorem find1_none {α : Type} {f : Nat → Option α} {n : Nat} (h : ∀ j, j < n → f j = none) : find1 f n = none := by
  rw [find1, List.findSome?_eq_none_iff]
  intro x hx
  exact h x (by simpa using hx)
theorem find1_succ {α : Type} {f : Nat → Option α} (n : Nat) : find1 f (n+1) = (find1 f n).or (f n) := by
  rw [find1, List.range_succ, List.findSome?_append]
  simp [find1, List.findSome?]
  cases f n <;> rfl
theorem find1_some {α : Type} {f : Nat → Option α} {x : α} : ∀ {n k : Nat}, k < n → f k = some x → (∀ j, j < k → f j = none) → find1 f n = some x
  | 0, k, hk, _, _ => by omega
  | n+1, k, hk, h1, h2 => by
    rw [find1_succ]
    by_cases e : k = n
    · subst e
      rw [find1_none h2, h1]; rfl
    · rw [find1_some (n := n) (by omega) h1 h2]; rfl
theorem find1_congr {α : Type} {f g : Nat → Option α} {n : Nat} (h : ∀ j, j < n → f j = g j) : find1 f n = find1 g n := by
  unfold find1
  induction n with
  | zero => rfl
  | succ n ih =>
    have := ih (fun j hj => h j (by omega))
    rw [List.range_succ, List.findSome?_append, List.findSome?_append, this]
    congr 1
    simp [List.findSome?, h n (by omega)]
theorem find1_ex {α : Type} {f : Nat → Option α} {x : α} : ∀ {n : Nat}, find1 f n = some x → ∃ k, k < n ∧ f k = some x ∧ ∀ j, j < k → f j = none
  | 0, h => by simp [find1] at h
  | n+1, h => by
    rw [find1_succ] at h
    cases hf : find1 f n with
    | none =>
      rw [hf] at h
      refine ⟨n, by omega, by simpa using h, fun j hj => ?_⟩
      rw [find1, List.findSome?_eq_none_iff] at hf
      exact hf j (by simpa using hj)
    | some y =>
      rw [hf] at h
      have e : y = x := by simpa using h
      subst e
      obtain ⟨k, hk, h1, h2⟩ := find1_ex hf
      exact ⟨k, by omega, h1, h2⟩
theorem find1_map {α β : Type} {f : Nat → Option α} {g : α → β} {n : Nat} : find1 (fun j => (f j).map g) n = (find1 f n).map g := by
  induction n with
  | zero => rfl
  | succ n ih => rw [find1_succ, find1_succ, ih]; cases find1 f n <;> rfl

/-- the set of the indices below k of the numbers that are at least z -/
def geTo (xs : List Int) (z : Int) : Nat → Nat
  | 0 => 0
  | j+1 => if z ≤ nth xs j then geTo xs z j ||| 2 ^ j else geTo xs z j
theorem geTo_lt (xs : List Int) (z : Int) : ∀ k, geTo xs z k < 2 ^ k
  | 0 => by simp [geTo]
  | k+1 => by
    have h := geTo_lt xs z k
    have h2 : 2 ^ k < 2 ^ (k+1) := two_lt (by omega)
    simp only [geTo]
    split
    · exact or_lt (by omega) h2
    · omega
theorem geTo_small (xs : List Int) (z : Int) {k : Nat} (h : k ≤ 10) : geTo xs z k < 1024 := by
  have h1 := geTo_lt xs z k
  have h2 : 2 ^ k ≤ 2 ^ 10 := Nat.pow_le_pow_right (by omega) h
  omega
theorem geTo_bit (xs : List Int) (z : Int) (j : Nat) : ∀ k, (geTo xs z k).testBit j = (decide (j < k) && decide (z ≤ nth xs j))
  | 0 => by simp [geTo]
  | k+1 => by
    have h := geTo_bit xs z j k
    simp only [geTo]
    by_cases hjk : j = k
    · subst hjk
      by_cases hb : z ≤ nth xs j
      · simp [Nat.testBit_or, testBit_two, hb]
      · simp [h, hb]
    · have e : decide (j < k + 1) = decide (j < k) := by
        rw [decide_eq_decide]; omega
      rw [e, ← h]
      have hkj : ¬ k = j := fun e => hjk e.symm
      by_cases hb : z ≤ nth xs k <;> simp [Nat.testBit_or, testBit_two, hkj, hb]
theorem geTo_yes {xs : List Int} {z : Int} {j : Nat} (h : z ≤ nth xs j) : geTo xs z (j+1) = geTo xs z j ||| 2 ^ j := by rw [geTo, if_pos h]
theorem geTo_no {xs : List Int} {z : Int} {j : Nat} (h : ¬ z ≤ nth xs j) : geTo xs z (j+1) = geTo xs z j := by rw [geTo, if_neg h]

def thB (t : Int) : Bool := inB t 1 10
/-- may a list be places for a threshold? -/
def okPl (t : Int) (xs : List Int) : Bool := thB t && decide (xs.length ≤ 10) && allB xs 0 1000
theorem okPl_iff {t : Int} {xs : List Int} : okPl t xs = true ↔ thB t = true ∧ xs.length ≤ 10 ∧ allB xs 0 1000 = true := by
  simp [okPl, and_assoc]
def plE (xs : List Int) (t : Int) (i : Nat) : Int := ((geTo xs (nth xs i + t) xs.length : Nat) : Int)
def pls (xs : List Int) (t : Int) (k : Nat) : List Int := fmap (plE xs t) k
theorem pls_len (xs : List Int) (t : Int) (k : Nat) : (pls xs t k).length = k := fmap_len _ _
def plN (t : Int) (xs : List Int) : Int := if okPl t xs then (xs.length : Int) else 0
def plL (t : Int) (xs : List Int) : List Int := if okPl t xs then pls xs t xs.length else []
theorem plL_len (t : Int) (xs : List Int) : (plL t xs).length ≤ 1048576 := by
  unfold plL
  split
  · rename_i h; have := (okPl_iff.1 h).2.1; rw [pls_len]; omega
  · simp

def ltG (n : Int) (xs : List Int) (k : Nat) : Option Int := if lpB n xs ((k : Int) + 1) then some ((k : Int) + 1) else none
def ltF (n : Int) (xs : List Int) : Option Int := find1 (ltG n xs) 10
def ltR (n : Int) (xs : List Int) : Int := (ltF n xs).getD 0
def ltO (n : Int) (xs : List Int) : Bool := (ltF n xs).isSome
theorem lt_at {n : Int} {xs : List Int} {k : Nat} (hk : k < 10) (h : lpB n xs ((k : Int) + 1) = true) (hb : ∀ j : Nat, j < k → lpB n xs ((j : Int) + 1) = false) : ltF n xs = some ((k : Int) + 1) :=
  find1_some hk (by rw [ltG, if_pos h]) (fun j hj => by rw [ltG, if_neg (by rw [hb j hj]; simp)])
theorem lt_none {n : Int} {xs : List Int} (hb : ∀ j : Nat, j < 10 → lpB n xs ((j : Int) + 1) = false) : ltF n xs = none :=
  find1_none (fun j hj => by rw [ltG, if_neg (by rw [hb j hj]; simp)])

theorem orHas_any (s i : Int) (w : World) (h0 : 0 ≤ s) (h1 : s ≤ 9223372036854775807) (hi : 0 ≤ i) :
    Calls Try.prog 88 #[.int .i64 s, .int .i64 i] w fun e w' => e = .returned (.bool (hasB s i)) ∧ w = w' := by
  have H := Lib.hid (has_mod h0 h1 hi)
  go_enter Try.func88, Try.ntmps88
  go_wp2
  go_ret
  exact ⟨ret_bool H.out, rfl⟩

theorem orBelow_any (n : Int) (a : Option Addr) (xs : List Int) (cap : Nat) (i : Int) (w : World) (hx : Rd w a xs) (hr : RelP n xs) (hi : 0 ≤ i) :
    Calls Try.prog 98 #[.agg #[.int .i64 n, .slice a xs.length cap], .int .i64 i] w fun e w' => e = .returned (.int .i64 (belowTo xs i xs.length)) ∧ Below w.heap.size w w' := by
  have hx1 := hx.alloc (.cells #[.int .i64 n, .slice a xs.length cap] 32)
  have hn : xs.length ≤ 10 := by have := hr.len; have := hr.n1; omega
  go_enter Try.func98, Try.ntmps98
  go_wp2_with fail
  go_loop [5, 11] (fun s i' => ∃ k : Nat, k ≤ xs.length ∧ i' = .int .i64 k ∧ s = .int .i64 (belowTo xs i k)) (fun _ i => xs.length - (intOf i).toNat)
  case atStart => exact ⟨0, Nat.zero_le _, rfl, rfl⟩
  case round =>
    obtain ⟨k, hk, rfl, rfl⟩ := hrel
    by_cases hlt : k < xs.length
    · obtain ⟨b, off, rfl, hbl, hc⟩ := hx1.cell k hlt
      obtain ⟨b', off', e', hbl', hc'⟩ := hx.cell k hlt
      simp only [Option.some.injEq, Addr.mk.injEq, and_true] at e'
      obtain ⟨rfl, rfl⟩ := e'
      have hpk := hr.pos k hlt
      have hsk : nth xs k ≤ 9223372036854775807 := by have := hr.small k hlt; omega
      have hbs := belowTo_small xs i (k := k) (by omega)
      have hor := Lib.hid (or_bit (b := belowTo xs i k) (k := k) (by omega) (by omega))
      clear hbs
      cases hin : hasB (nth xs k) i
      · go_wp2_with (go_at_call 88; refine (orHas_any _ _ _ hpk hsk hi).mono ?_; rintro e w' ⟨rfl, rfl⟩)
        go_round
        case rel => exact ⟨k + 1, by omega, by go_num, by simp [belowTo, hin]⟩
        case measure => simp [intOf]; omega
      · go_wp2_with (go_at_call 88; refine (orHas_any _ _ _ hpk hsk hi).mono ?_; rintro e w' ⟨rfl, rfl⟩)
        go_round
        case rel => exact ⟨k + 1, by omega, by go_num, val_int (by rw [hor.out]; simp [belowTo, hin])⟩
        case measure => simp [intOf]; omega
    · obtain rfl : k = xs.length := by omega
      go_wp2_with fail
      go_ret
      exact ⟨rfl, (by repeat (first | exact Below.refl _ _ | assumption | refine Below.alloc ?_ (by first | exact Nat.le_refl _ | (simp only [World.size_alloc, World.size_setCell, World.size_drew]; omega) | omega) _ | refine Below.setCell ?_ (by first | exact Nat.le_refl _ | (simp only [World.size_alloc, World.size_setCell, World.size_drew]; omega) | omega) _ | refine Below.drew ?_))⟩

theorem orFree_any (n : Int) (a : Option Addr) (xs : List Int) (cap : Nat) (k : Nat) (w : World) (hx : Rd w a xs) (hr : RelP n xs) (hk : k < xs.length) :
    Calls Try.prog 123 #[.agg #[.int .i64 n, .slice a xs.length cap], .int .i64 k] w fun e w' => e = .returned (.int .i64 (freeN xs k)) ∧ Below w.heap.size w w' := by
  have hx1 := hx.alloc (.cells #[.int .i64 n, .slice a xs.length cap] 32)
  have hn := hr.n1
  have h0 := hr.n0
  have hk0 : (0 : Int) ≤ (k : Int) := by omega
  have hk1 : (k : Int) < (xs.length : Int) := by omega
  have HF := Lib.hid (free_val hr hk)
  obtain ⟨b, off, rfl, hbl, hc⟩ := hx1.cell k hk
  obtain ⟨b', off', e', hbl', hc'⟩ := hx.cell k hk
  simp only [Option.some.injEq, Addr.mk.injEq, and_true] at e'
  obtain ⟨rfl, rfl⟩ := e'
  go_enter Try.func123, Try.ntmps123
  go_wp2_with fail
  go_region_held3 (fun w' => w'.cell? ⟨w.heap.size, 0, none⟩ = some (.int .i64 n) ∧ w'.cell? ⟨w.heap.size, 1, none⟩ = some (.slice (some ⟨b, off, none⟩) xs.length cap) ∧ w'.cell? ⟨b, off + k, none⟩ = some (.int .i64 (nth xs k)))
    (first | exact ⟨P1.2.1, P1.2.2, q1⟩ | go_keep)
    (first | (go_at_call 98; refine (orBelow_any _ _ _ _ _ _ (hx1.below (Joins.below_draws _ _ _)) hr (by omega)).mono ?_; rintro e w1 ⟨rfl, hb1⟩; have ht1 : Below (w.alloc (.cells #[.int .i64 n, .slice (some ⟨b, off, none⟩) xs.length cap] 32)).heap.size (w.alloc (.cells #[.int .i64 n, .slice (some ⟨b, off, none⟩) xs.length cap] 32)) w1 := (Joins.below_draws _ _ _).trans hb1; have P1 := (Box2.new w _ _ _).below ht1; have q1 := (ht1.cell (p := ⟨b, off + k, none⟩) hbl).trans hc))
  go_wp2_with fail
  go_ret
  exact ⟨ret_int (by rw [show min k 64 = k from by have := hr.len; omega, ← HF.out]; simp only [i64_wrap]), Below.trans (by repeat (first | exact Below.refl _ _ | assumption | refine Below.alloc ?_ (by first | exact Nat.le_refl _ | (simp only [World.size_alloc, World.size_setCell, World.size_drew]; omega) | omega) _ | refine Below.setCell ?_ (by first | exact Nat.le_refl _ | (simp only [World.size_alloc, World.size_setCell, World.size_drew]; omega) | omega) _ | refine Below.drew ?_)) (ht1.mono (by first | (simp only [World.size_alloc, World.size_setCell, World.size_drew]; omega) | omega))⟩

theorem frN_lt {n : Int} {xs : List Int} (hp : RelP n xs) (i : Nat) : freeN xs i < 1024 := by
  have h10 : xs.length ≤ 10 := by have := hp.len; have := hp.n1; omega
  unfold freeN
  have h1 : 2 ^ xs.length ≤ 2 ^ 10 := Nat.pow_le_pow_right (by omega) h10
  have h2 := Nat.two_pow_pos xs.length
  exact sub_lt (n := 10) (by omega)
theorem seIndifferent_any (n : Int) (a : Option Addr) (xs : List Int) (cap : Nat) (i j : Nat) (w : World) (hx : Rd w a xs) (hp : RelP n xs) (hi : i < xs.length) :
    Calls Try.prog 110 #[.agg #[.int .i64 n, .slice a xs.length cap], .int .i64 i, .int .i64 j] w fun e w' => e = .returned (.bool (frB xs i j)) ∧ Below w.heap.size w w' := by
  have hx1 := hx.alloc (.cells #[.int .i64 n, .slice a xs.length cap] 32)
  have hf := frN_lt hp i
  have f0 : (0 : Int) ≤ ((freeN xs i : Nat) : Int) := by omega
  have f1 : ((freeN xs i : Nat) : Int) ≤ 9223372036854775807 := by omega
  have j0 : (0 : Int) ≤ (j : Int) := by omega
  have HB : Hid (hasB ((freeN xs i : Nat) : Int) (j : Int) = frB xs i j) := rfl
  clear hf
  go_enter Try.func110, Try.ntmps110
  go_wp2_with fail
  refine (orFree_any _ _ _ _ _ _ hx1 hp hi).mono ?_
  rintro e w1 ⟨rfl, hb1⟩
  have bw1 : Below w.heap.size w w1 := Below.trans (by repeat (first | exact Below.refl _ _ | assumption | refine Below.alloc ?_ (by first | exact Nat.le_refl _ | (simp only [World.size_alloc, World.size_setCell, World.size_drew]; omega) | omega) _ | refine Below.setCell ?_ (by first | exact Nat.le_refl _ | (simp only [World.size_alloc, World.size_setCell, World.size_drew]; omega) | omega) _ | refine Below.drew ?_)) (hb1.mono (by first | (simp only [World.size_alloc, World.size_setCell, World.size_drew]; omega) | omega))
  clear hb1
  go_wp2_with fail
  refine (orHas_any _ _ _ f0 f1 j0).mono ?_
  rintro e w' ⟨rfl, rfl⟩
  go_wp2_with fail
  go_ret
  exact ⟨ret_bool HB.out, bw1⟩

def elemB (i n : Int) : Bool := decide (0 ≤ i) && decide (i < n)
theorem elemB_iff {i n : Int} : elemB i n = true ↔ 0 ≤ i ∧ i < n := by simp [elemB]
theorem elemB_no {i n : Int} : elemB i n = false ↔ i < 0 ∨ n ≤ i := by
  rw [← Bool.not_eq_true, elemB_iff]; omega

theorem ret_bb {a b c d : Bool} (h : a = b) (h2 : c = d) : Ending.returned (.tuple #[.bool a, .bool c]) = .returned (.tuple #[.bool b, .bool d]) := by rw [h, h2]
theorem ret_ib {a b : Int} {c d : Bool} (h : a = b) (h2 : c = d) : Ending.returned (.tuple #[.int .i64 a, .bool c]) = .returned (.tuple #[.int .i64 b, .bool d]) := by rw [h, h2]

def okE (n : Int) (xs : List Int) (i : Int) : Bool := relB n xs && elemB i n
def okB (n : Int) (xs : List Int) (i j : Int) : Bool := relB n xs && elemB i n && elemB j n
def betF (n : Int) (xs : List Int) (i j : Int) : Bool := okB n xs i j && hasB (nth xs i.toNat) j

theorem seDemand_any (n : Int) (a : Option Addr) (xs : List Int) (cap : Nat) (t : Int) (i j : Nat) (w : World) (hx : Rd w a xs) (hp : RelP n xs) (ht0 : 1 ≤ t) (ht1 : t ≤ 10) (hi : i < xs.length) :
    Calls Try.prog 82 #[.agg #[.int .i64 n, .slice a xs.length cap], .int .i64 t, .int .i64 i, .int .i64 j] w fun e w' => e = .returned (.tuple #[.int .i64 (wtV xs t i j), .bool (wtO xs t i j)]) ∧ Below w.heap.size w w' := by
  have hx1 := hx.alloc (.cells #[.int .i64 n, .slice a xs.length cap] 32)
  have hn := hp.len
  have pi := hp.pos i hi
  have si : nth xs i ≤ 9223372036854775807 := by have := hp.small i hi; omega
  have j0 : (0 : Int) ≤ (j : Int) := by omega
  obtain ⟨b, off, rfl, hbl, hc⟩ := hx1.cell i hi
  obtain ⟨b', off', e', hbl0, hc0⟩ := hx.cell i hi
  simp only [Option.some.injEq, Addr.mk.injEq, and_true] at e'
  obtain ⟨rfl, rfl⟩ := e'
  cases h1 : hasB (nth xs i) j
  · have HH := Lib.hid h1
    cases h2 : frB xs i j
    · have H1 : Hid (wtV xs t i j = 0) := by simp [Hid, wtV, wt_no h1 h2]
      have H2 : Hid (wtO xs t i j = false) := by simp [Hid, wtO, wt_no h1 h2]
      have HF := Lib.hid h2
      clear h1 h2
      go_enter Try.func82, Try.ntmps82
      go_wp2_with fail
      refine (orHas_any _ _ _ pi si j0).mono ?_
      rw [HH.out]
      rintro e w' ⟨rfl, rfl⟩
      go_wp2_with fail
      refine (seIndifferent_any _ _ _ _ _ _ _ hx1 hp hi).mono ?_
      rw [HF.out]
      rintro e w2 ⟨rfl, hb2⟩
      have bw2 : Below w.heap.size w w2 := Below.trans (by repeat (first | exact Below.refl _ _ | assumption | refine Below.alloc ?_ (by first | exact Nat.le_refl _ | (simp only [World.size_alloc, World.size_setCell, World.size_drew]; omega) | omega) _ | refine Below.setCell ?_ (by first | exact Nat.le_refl _ | (simp only [World.size_alloc, World.size_setCell, World.size_drew]; omega) | omega) _ | refine Below.drew ?_)) (hb2.mono (by first | (simp only [World.size_alloc, World.size_setCell, World.size_drew]; omega) | omega))
      go_wp2_with fail
      go_ret2
      exact ⟨ret_ib H1.out.symm H2.out.symm, bw2⟩
    · have H1 : Hid (wtV xs t i j = 1 - t) := by simp [Hid, wtV, wt_free h1 h2]
      have H2 : Hid (wtO xs t i j = true) := by simp [Hid, wtO, wt_free h1 h2]
      have HF := Lib.hid h2
      clear h1 h2
      go_enter Try.func82, Try.ntmps82
      go_wp2_with fail
      refine (orHas_any _ _ _ pi si j0).mono ?_
      rw [HH.out]
      rintro e w' ⟨rfl, rfl⟩
      go_wp2_with fail
      refine (seIndifferent_any _ _ _ _ _ _ _ hx1 hp hi).mono ?_
      rw [HF.out]
      rintro e w2 ⟨rfl, hb2⟩
      have bw2 : Below w.heap.size w w2 := Below.trans (by repeat (first | exact Below.refl _ _ | assumption | refine Below.alloc ?_ (by first | exact Nat.le_refl _ | (simp only [World.size_alloc, World.size_setCell, World.size_drew]; omega) | omega) _ | refine Below.setCell ?_ (by first | exact Nat.le_refl _ | (simp only [World.size_alloc, World.size_setCell, World.size_drew]; omega) | omega) _ | refine Below.drew ?_)) (hb2.mono (by first | (simp only [World.size_alloc, World.size_setCell, World.size_drew]; omega) | omega))
      go_wp2_with fail
      go_ret2
      exact ⟨ret_ib H1.out.symm H2.out.symm, bw2⟩
  · have HH := Lib.hid h1
    have H1 : Hid (wtV xs t i j = t) := by simp [Hid, wtV, wt_yes h1]
    have H2 : Hid (wtO xs t i j = true) := by simp [Hid, wtO, wt_yes h1]
    clear h1
    go_enter Try.func82, Try.ntmps82
    go_wp2_with fail
    refine (orHas_any _ _ _ pi si j0).mono ?_
    rw [HH.out]
    rintro e w' ⟨rfl, rfl⟩
    go_wp2_with fail
    go_ret2
    exact ⟨ret_ib H1.out.symm H2.out.symm, (by repeat (first | exact Below.refl _ _ | assumption | refine Below.alloc ?_ (by first | exact Nat.le_refl _ | (simp only [World.size_alloc, World.size_setCell, World.size_drew]; omega) | omega) _ | refine Below.setCell ?_ (by first | exact Nat.le_refl _ | (simp only [World.size_alloc, World.size_setCell, World.size_drew]; omega) | omega) _ | refine Below.drew ?_))⟩

theorem ret_ssi {a a' b b' : Value} {c c' : Int} (h1 : a = a') (h2 : b = b') (h3 : c = c') : Ending.returned (.tuple #[a, b, .int .i64 c]) = .returned (.tuple #[a', b', .int .i64 c']) := by rw [h1, h2, h3]
set_option maxRecDepth 100000 in
theorem seRounds_any (n : Int) (a : Option Addr) (xs : List Int) (cap : Nat) (t : Int) (w : World) (hx : Rd w a xs) (hp : RelP n xs) (ht0 : 1 ≤ t) (ht1 : t ≤ 10) :
    Calls Try.prog 77 #[.agg #[.int .i64 n, .slice a xs.length cap], .int .i64 t] w fun e w' => ∃ g1 g2 : Nat, e = .returned (.tuple #[.slice (some ⟨g1, 0, none⟩) xs.length xs.length, .slice (some ⟨g2, 0, none⟩) xs.length xs.length, .int .i64 (fin xs t).L]) ∧ g1 < g2 ∧
      OwnI w' w.heap.size (.slice (some ⟨g1, 0, none⟩) xs.length xs.length) (fin xs t).P ∧ OwnI w' w.heap.size (.slice (some ⟨g2, 0, none⟩) xs.length xs.length) (fin xs t).R ∧ Below w.heap.size w w' := by
  have h10 : xs.length ≤ 10 := by have := hp.len; have := hp.n1; omega
  obtain rfl : n = (xs.length : Int) := hp.len.symm
  obtain ⟨i0, hi, hz0, hz1, hz2⟩ := info_parts infoInt
  go_enter Try.func77, Try.ntmps77
  have A1 : Box2 (w.alloc (.cells #[.int .i64 (xs.length : Int), .slice a xs.length cap] 32)) w.heap.size (.int .i64 (xs.length : Int)) (.slice a xs.length cap) := Box2.new w _ _ _
  obtain ⟨w1, hw1⟩ : ∃ w1, w1 = w.alloc (.cells #[.int .i64 (xs.length : Int), .slice a xs.length cap] 32) := ⟨_, rfl⟩
  have bw1 : Below w.heap.size w w1 := by rw [hw1]; exact (by repeat (first | exact Below.refl _ _ | assumption | refine Below.alloc ?_ (by first | exact Nat.le_refl _ | (simp only [World.size_alloc, World.size_setCell, World.size_drew]; omega) | omega) _ | refine Below.setCell ?_ (by first | exact Nat.le_refl _ | (simp only [World.size_alloc, World.size_setCell, World.size_drew]; omega) | omega) _ | refine Below.drew ?_))
  have hz1' : w.heap.size + 1 ≤ w1.heap.size := by rw [hw1]; simp
  have HW1 := Lib.hid hw1
  rw [← hw1] at A1
  have ⟨zA, cA, dA⟩ := A1
  clear hw1
  clear cA dA
  have e0 : rowF (fun _ => 0) xs.length 0 = List.replicate xs.length 0 := by simp [rowF, fmap]
  go_wp2_with (first | (rw [← HW1.out]; at_make; refine wpList_make_full _ rfl (.tmp 16) (.tmp 16) 23 rfl (w.heap.size + 1) 3 i0 (.int .i64 0) 1 Try.underlying23 hi hz0 hz1 .i64 .i64 _ _ xs.length rfl rfl rfl rfl (by rw [hz2]; omega) (by unfold maxLen; omega) hz1' ?_; intro w2 hown hgrow; have A2 := A1.kept hgrow (by simp); have ⟨zA2, cA2, dA2⟩ := A2; have hz2' : w.heap.size + 1 ≤ w2.heap.size := Nat.le_trans hz1' hgrow.size) | (at_make; refine wpList_make_full _ rfl (.tmp 19) (.tmp 19) 23 rfl (w.heap.size + 1) 3 i0 (.int .i64 0) 1 Try.underlying23 hi hz0 hz1 .i64 .i64 _ _ xs.length rfl rfl rfl rfl (by rw [hz2]; omega) (by unfold maxLen; omega) hz2' ?_; intro w3 hown2 hgrow2; have A3 := A2.kept hgrow2 (by simp)))
  have bw2 : Below w.heap.size w w2 := bw1.grown hgrow bw1.size (fun k h => by cases h)
  have bw3 : Below w.heap.size w w3 := bw2.grown hgrow2 bw2.size (fun k h => by cases h)
  have hown0 := made_row (fun _ => 0) hown
  rw [e0] at hown0
  have hgl := hown0.lt w1.heap.size rfl
  have hP0 := hown0.kept hgrow2 (.inr (by simp [Value.ownBlock]))
  have hR0 := made_row (fun _ => 0) hown2
  rw [e0] at hR0
  obtain ⟨g1, hg1⟩ : ∃ g, g = w1.heap.size := ⟨_, rfl⟩
  obtain ⟨g2, hg2⟩ : ∃ g, g = w2.heap.size := ⟨_, rfl⟩
  have hgz : w.heap.size + 1 ≤ g1 := by omega
  have hgp : g1 < g2 := by omega
  have hgz2 : w.heap.size + 1 ≤ g2 := by omega
  rw [← hg1] at hP0 ⊢
  rw [← hg2] at hR0 ⊢
  have hne1 : ¬ g1 = g2 := by omega
  have hne2 : ¬ g2 = g1 := by omega
  clear hown hgrow hown0 hgl hg1 hg2 cA2 dA2 A1 HW1 hz1' zA hown2 hgrow2 A2 e0 bw1 bw2 zA2 hz2'
  go_wp2_with fail
  go_loopw [9, 10] (fun l i wr => ∃ r : Nat, r ≤ xs.length + 1 ∧ i = .int .i64 r ∧ l = .int .i64 (rnds xs t r).L ∧ OwnI wr (w.heap.size + 1) (.slice (some ⟨g1, 0, none⟩) xs.length xs.length) (rnds xs t r).P ∧ OwnI wr (w.heap.size + 1) (.slice (some ⟨g2, 0, none⟩) xs.length xs.length) (rnds xs t r).R ∧ Below w.heap.size w wr ∧ Box2 wr w.heap.size (.int .i64 (xs.length : Int)) (.slice a xs.length cap)) (fun _ i _ => xs.length + 1 - (intOf i).toNat)
  case atStart => exact ⟨0, Nat.zero_le _, rfl, rfl, hP0, hR0, bw3, A3⟩
  case round =>
    obtain ⟨r, hr, rfl, rfl, hP, hR, hb, hA⟩ := hrel
    by_cases hend : r = xs.length + 1
    · subst hend
      have HFIN : Hid (rnds xs t (xs.length + 1) = fin xs t) := rfl
      rw [HFIN.out] at hP hR ⊢
      have ⟨zr, cr, dr⟩ := hA
      go_wp2_with fail
      refine bodyPost_ret (v := .tuple #[.slice (some ⟨g1, 0, none⟩) xs.length xs.length, .slice (some ⟨g2, 0, none⟩) xs.length xs.length, .int .i64 (fin xs t).L]) (by simp [results, Try.results77, go_sem]) rfl ?_
      exact ⟨g1, g2, rfl, hgp, hP.mono (by omega), hR.mono (by omega), hb⟩
    have hlt : r ≤ xs.length := by omega
    clear hend
    obtain ⟨s0, hs0⟩ : ∃ s0 : Rnd, s0 = ⟨(rnds xs t r).P, (rnds xs t r).R, -1⟩ := ⟨_, rfl⟩
    have hbd0 := rnds_bd ht0 ht1 (xs := xs) r
    have hbs : Bd xs.length (r * (xs.length * xs.length)) s0 := by
      rw [hs0]; exact ⟨hbd0.lp, hbd0.lr, hbd0.p0, hbd0.r0, by show (-1 : Int) ≤ -1 ∧ (-1 : Int) < xs.length; omega⟩
    have hms : r * (xs.length * xs.length) ≤ 1100 := by
      have h1 : xs.length * xs.length ≤ 100 := Nat.mul_le_mul h10 h10
      exact Nat.le_trans (Nat.mul_le_mul (by omega : r ≤ 11) h1) (by omega)
    have HBD := Lib.hid (hbs.mono hms)
    have HNX : Hid (rnds xs t (r+1) = rndR xs t s0 xs.length) := by rw [hs0]; rfl
    have hPs : OwnI wr (w.heap.size + 1) (.slice (some ⟨g1, 0, none⟩) xs.length xs.length) s0.P := by rw [hs0]; exact hP
    have hRs : OwnI wr (w.heap.size + 1) (.slice (some ⟨g2, 0, none⟩) xs.length xs.length) s0.R := by rw [hs0]; exact hR
    have HL0 : Hid (s0.L = -1) := by rw [hs0]; rfl
    have ⟨zr, cr, dr⟩ := hA
    clear hs0 hbd0 hbs hms hP hR
    · have r0 : (r : Int) ≤ (xs.length : Int) := by omega
      go_wp2_with fail
      clear cr dr
      go_loopw [9, 29] (fun l i wr => ∃ j : Nat, j ≤ xs.length ∧ i = .int .i64 j ∧ l = .int .i64 (rndR xs t s0 j).L ∧ OwnI wr (w.heap.size + 1) (.slice (some ⟨g1, 0, none⟩) xs.length xs.length) (rndR xs t s0 j).P ∧ OwnI wr (w.heap.size + 1) (.slice (some ⟨g2, 0, none⟩) xs.length xs.length) (rndR xs t s0 j).R ∧ Below w.heap.size w wr ∧ Box2 wr w.heap.size (.int .i64 (xs.length : Int)) (.slice a xs.length cap)) (fun _ i _ => xs.length - (intOf i).toNat)
      case atStart => exact ⟨0, Nat.zero_le _, rfl, by rw [rndR, HL0.out], hPs, hRs, hb, hA⟩
      case round =>
        clear hPs hRs hb hA
        obtain ⟨j, hj, rfl, rfl, hP, hR, hb, hA⟩ := hrel
        obtain ⟨s1, hs1⟩ : ∃ s1 : Rnd, s1 = rndR xs t s0 j := ⟨_, rfl⟩
        have hbs := HBD.out.rnd ht0 ht1 j hj
        rw [← hs1] at hP hR hbs ⊢
        have HS1 := Lib.hid hs1
        have hms : 1100 + j * xs.length ≤ 1200 := by
          have h1 : j * xs.length ≤ 100 := Nat.mul_le_mul (by omega : j ≤ 10) h10
          omega
        have HB1 := Lib.hid (hbs.mono hms)
        clear hs1 hbs hms
        by_cases hjl : j < xs.length
        · have j0 : (0 : Int) ≤ (j : Int) := by omega
          have j1 : (j : Int) < (xs.length : Int) := by omega
          go_wp2_with fail
          go_loopw [9, 34] (fun l i wr => ∃ m : Nat, m ≤ xs.length ∧ i = .int .i64 m ∧ l = .int .i64 (rowR xs t s1 j m).L ∧ OwnI wr (w.heap.size + 1) (.slice (some ⟨g1, 0, none⟩) xs.length xs.length) (rowR xs t s1 j m).P ∧ OwnI wr (w.heap.size + 1) (.slice (some ⟨g2, 0, none⟩) xs.length xs.length) (rowR xs t s1 j m).R ∧ Below w.heap.size w wr ∧ Box2 wr w.heap.size (.int .i64 (xs.length : Int)) (.slice a xs.length cap)) (fun _ i _ => xs.length - (intOf i).toNat)
          case atStart => exact ⟨0, Nat.zero_le _, rfl, rfl, hP, hR, hb, hA⟩
          case round =>
            clear hP hR hb hA
            obtain ⟨m, hm, rfl, rfl, hP, hR, hb, hA⟩ := hrel
            obtain ⟨s, hs⟩ : ∃ s : Rnd, s = rowR xs t s1 j m := ⟨_, rfl⟩
            have hbs := HB1.out.row ht0 ht1 hjl m hm
            rw [← hs] at hP hR hbs ⊢
            have HS := Lib.hid hs
            clear hs
            by_cases hml : m < xs.length
            · have m0 : (0 : Int) ≤ (m : Int) := by omega
              have m1 : (m : Int) < (xs.length : Int) := by omega
              have ⟨zA, cA, dA⟩ := hA
              have HNS : Hid (rowR xs t s1 j (m+1) = stepR xs t s j m) := by rw [HS.out]; rfl
              have ⟨pj0, pj1⟩ := hbs.p0 j hjl
              have ⟨pm0, pm1⟩ := hbs.p0 m hml
              have ⟨wv0, wv1⟩ := wtV_bd (xs := xs) (i := m) (j := j) ht0 ht1
              have HLP := Lib.hid hbs.lp
              have HLR := Lib.hid hbs.lr
              clear hbs
              go_wp2_with fail
              refine (seDemand_any _ _ _ _ _ _ _ _ (hx.below hb) hp ht0 ht1 hml).mono ?_
              rintro e w4 ⟨rfl, hb4⟩
              have hP4 := hP.below hb4 (Nat.le_refl _)
              have hR4 := hR.below hb4 (Nat.le_refl _)
              have hA4 := hA.below hb4
              have bw4 := hb.trans (hb4.mono hb.size)
              have ⟨cj, fj⟩ := hP4.at' HLP.out.symm (i := j) (by rw [HLP.out]; exact hjl)
              have ⟨cm, fm⟩ := hP4.at' HLP.out.symm (i := m) (by rw [HLP.out]; exact hml)
              clear hb4 hP hR hA hb cA dA zA
              cases ho : wtO xs t m j
              · have HE : Hid (stepR xs t s j m = s) := by rw [Hid, stepR, if_neg (by simp [ho])]
                go_wp2_with fail
                go_quiet (fail)
                go_wp2_with fail
                go_roundw
                case rel => exact ⟨m + 1, by omega, by go_num, by rw [HNS.out, HE.out], by rw [HNS.out, HE.out]; exact hP4.below (Joins.below_draws _ _ _) (Nat.le_refl _), by rw [HNS.out, HE.out]; exact hR4.below (Joins.below_draws _ _ _) (Nat.le_refl _), bw4.trans (Joins.below_draws _ _ _), hA4.below (Joins.below_draws _ _ _)⟩
                case measure => simp [intOf]; omega
              · by_cases hlt2 : nth s.P j < nth s.P m + wtV xs t m j
                · have HE : Hid (stepR xs t s j m = ⟨s.P.set j (nth s.P m + wtV xs t m j), s.R.set j m, j⟩) := by rw [Hid, stepR, if_pos ⟨ho, hlt2⟩]
                  go_wp2_with fail
                  go_quiet (fail)
                  obtain ⟨w5, hw5⟩ : ∃ w5, w5 = w4.drewN nq := ⟨_, rfl⟩
                  have ht5 : Below w4.heap.size w4 w5 := by rw [hw5]; exact Joins.below_draws _ _ _
                  rw [← hw5]
                  have hP5 := hP4.below ht5 (Nat.le_refl _)
                  have hR5 := hR4.below ht5 (Nat.le_refl _)
                  have hA5 := hA4.below ht5
                  have bw5 := bw4.trans (ht5.mono bw4.size)
                  have ⟨cj5, fj5⟩ := hP5.at' HLP.out.symm (i := j) (by rw [HLP.out]; exact hjl)
                  have ⟨cm5, fm5⟩ := hP5.at' HLP.out.symm (i := m) (by rw [HLP.out]; exact hml)
                  have hput := hP5.put HLP.out.symm j (nth s.P m + wtV xs t m j)
                  have hR6 := hR5.kept hput.2 (.inr (by simp only [Value.ownBlock, ne_eq, Option.some.injEq]; exact hne2))
                  have ⟨cr6, fr6⟩ := hR6.at' HLR.out.symm (i := j) (by rw [HLR.out]; exact hjl)
                  have hput2 := hR6.put HLR.out.symm j (m : Int)
                  have hP6 := hput.1.kept hput2.2 (.inr (by simp only [Value.ownBlock, ne_eq, Option.some.injEq]; exact hne1))
                  have HP6 := Lib.hid hP6
                  have HR7 := Lib.hid hput2.1
                  clear hput hput2 hP6 hR6 hP5 hR5 hP4 hR4 hA4 bw4 cj fj cm fm hw5 ht5
                  go_wp2_with fail
                  go_roundw
                  case rel =>
                    refine ⟨m + 1, by omega, by go_num, by rw [HNS.out, HE.out], by rw [HNS.out, HE.out]; exact HP6.out, by rw [HNS.out, HE.out]; exact HR7.out, ?_, ?_⟩
                    · exact (bw5.setCell (p := ⟨g1, j, none⟩) (show w.heap.size ≤ g1 by omega) _).setCell (p := ⟨g2, j, none⟩) (show w.heap.size ≤ g2 by omega) _
                    · exact (hA5.set (p := ⟨g1, j, none⟩) _ (show w.heap.size ≠ g1 by omega)).set (p := ⟨g2, j, none⟩) _ (show w.heap.size ≠ g2 by omega)
                  case measure => simp [intOf]; omega
                · have HE : Hid (stepR xs t s j m = s) := by rw [Hid, stepR, if_neg (fun h => hlt2 h.2)]
                  go_wp2_with fail
                  go_quiet (fail)
                  go_wp2_with fail
                  go_roundw
                  case rel => exact ⟨m + 1, by omega, by go_num, by rw [HNS.out, HE.out], by rw [HNS.out, HE.out]; exact hP4.below (Joins.below_draws _ _ _) (Nat.le_refl _), by rw [HNS.out, HE.out]; exact hR4.below (Joins.below_draws _ _ _) (Nat.le_refl _), bw4.trans (Joins.below_draws _ _ _), hA4.below (Joins.below_draws _ _ _)⟩
                  case measure => simp [intOf]; omega
            · obtain rfl : m = xs.length := by omega
              have HNS : Hid (rndR xs t s0 (j+1) = s) := by rw [HS.out, HS1.out]; rfl
              go_wp2_with fail
              go_roundw
              case rel => exact ⟨j + 1, by omega, by go_num, by rw [HNS.out], by rw [HNS.out]; exact hP, by rw [HNS.out]; exact hR, hb, hA⟩
              case measure => simp [intOf]; omega
        · obtain rfl : j = xs.length := by omega
          have HF1 : Hid (rnds xs t (r+1) = s1) := by rw [Hid, HNX.out, HS1.out]
          by_cases hL : s1.L < 0
          · have HFIN : Hid (fin xs t = s1) := by
              have h1 := rnds_stop' (xs := xs) (t := t) (k := r + 1) (by omega) (by rw [HF1.out]; exact hL) (xs.length - r)
              rw [show r + 1 + (xs.length - r) = xs.length + 1 from by omega] at h1
              rw [Hid, fin, h1, HF1.out]
            go_wp2_with fail
            refine bodyPost_ret (v := .tuple #[.slice (some ⟨g1, 0, none⟩) xs.length xs.length, .slice (some ⟨g2, 0, none⟩) xs.length xs.length, .int .i64 s1.L]) (by simp [results, Try.results77, go_sem]) rfl ?_
            exact ⟨g1, g2, by rw [HFIN.out], hgp, by rw [HFIN.out]; exact hP.mono (by omega), by rw [HFIN.out]; exact hR.mono (by omega), hb⟩
          · go_wp2_with fail
            go_roundw
            case rel => exact ⟨r + 1, by omega, by go_num, by rw [HF1.out], by rw [HF1.out]; exact hP, by rw [HF1.out]; exact hR, hb, hA⟩
            case measure => simp [intOf]; omega

theorem orList_any (s : Int) (w : World) (h0 : 0 ≤ s) (h1 : s < 1024) :
    Calls Try.prog 89 #[.int .i64 s] w fun e w' => ∃ a cap, e = .returned (.slice a (elems s.toNat).length cap) ∧ OwnI w' w.heap.size (.slice a (elems s.toNat).length cap) (elems s.toNat) ∧ Below w.heap.size w w' := by
  obtain ⟨S, rfl⟩ := Int.eq_ofNat_of_zero_le h0
  have hS : S < 1024 := by omega
  obtain ⟨i0, hi, hz0, hz1, hz2⟩ := info_parts infoInt
  have hsh : ∀ k : Nat, (S : Int) / 2 ^ min k 64 = ((S >>> k : Nat) : Int) := fun k => shr_nat S k (by omega)
  have HSH := Lib.hid hsh
  clear hsh
  go_enter Try.func89, Try.ntmps89
  go_wp2_with fail
  go_loopw [3, 4] (fun v i wr => ∃ k : Nat, k ≤ 10 ∧ i = .int .i64 k ∧ wr.ownsRow w.heap.size 3 1 v (elemsTo S k).length ((elemsTo S k).map (Value.int .i64)) ∧ Below w.heap.size w wr) (fun _ i _ => 10 - (intOf i).toNat)
  case atStart => exact ⟨0, by omega, rfl, by simpa [elemsTo] using World.ownsRow_nil _ _ _ _, Below.refl _ _⟩
  case round =>
    obtain ⟨k, hk, rfl, hown, hb⟩ := hrel
    have hln := elemsTo_len S k
    have hsz := hb.size
    have hq := HSH.out k
    rw [show min k 64 = k from by omega] at hq
    by_cases hz : S >>> k = 0
    · have ht : ¬ (0 : Int) < (S : Int) / 2 ^ k := by rw [hq, hz]; omega
      have HZ := Lib.hid hz
      clear hq hz
      go_wp2_with fail
      go_ret
      have e := elems_at HZ.out hk
      rw [e] at hown
      obtain ⟨a, cap, rfl⟩ := OwnI.form hown
      exact ⟨a, cap, rfl, hown, hb⟩
    · have ht : (0 : Int) < (S : Int) / 2 ^ k := by rw [hq]; exact Int.natCast_pos.2 (Nat.pos_of_ne_zero hz)
      have hk9 : k < 10 := by
        rcases Nat.lt_or_ge k 10 with h | h
        · exact h
        · obtain rfl : k = 10 := by omega
          exact absurd (by rw [Nat.shiftRight_eq_div_pow]; exact Nat.div_eq_of_lt (by omega)) hz
      clear hq hz
      have hhas : hasB (S : Int) (k : Int) = S.testBit k := rfl
      cases hin : S.testBit k
      · rw [hin] at hhas
        go_wp2_with (go_at_call 88; refine (orHas_any _ _ _ (by omega) (by omega) (by omega)).mono ?_; rintro e w' ⟨rfl, rfl⟩)
        go_roundw
        case rel => exact ⟨k + 1, by omega, by go_num, by simpa [elemsTo, hin] using hown, hb⟩
        case measure => simp [intOf]; omega
      · rw [hin] at hhas
        go_wp2_with (first | (go_at_call 88; refine (orHas_any _ _ _ (by omega) (by omega) (by omega)).mono ?_; rintro e w' ⟨rfl, rfl⟩) | (at_builtin; refine wpList_append_own _ rfl _ _ 23 rfl w.heap.size 3 i0 (.int .i64 0) 1 8 Try.underlying23 hi hz0 hz1 hz2 rfl (by decide) _ _ _ rfl (hown.alloc _) ⟨wr.heap.size, 0, none⟩ 1 1 [.int .i64 k] rfl rfl ?c1 ?c2 ?c3 ?c4 ?c5 ?_))
        case c1 =>
          intro j u hj
          match j, hj with
          | 0, hj => simp at hj; subst hj; simp [Addr.add]
        case c2 => intro u hu; simp at hu; subst hu; rfl
        case c3 => unfold maxLen; omega
        case c4 => omega
        case c5 => simp; omega
        · intro v' w1 hown' hgrow _
          have hlt := World.ownsRow.lt hown
          have hb1 : Below w.heap.size w w1 := (hb.alloc hsz _).grown hgrow (by simp; omega) (fun b e => (hlt b e).1)
          have HO := Lib.hid hown'
          clear hown' hgrow hown
          go_wp2_with fail
          go_roundw
          case rel => exact ⟨k + 1, by omega, by go_num, by simpa [elemsTo, hin] using HO.out, hb1⟩
          case measure => simp [intOf]; omega

theorem l1In_any (n lo hi : Int) (w : World) :
    Calls Try.prog 66 #[.int .i64 n, .int .i64 lo, .int .i64 hi] w fun e w' => e = .returned (.bool (inB n lo hi)) ∧ w = w' := by
  go_enter Try.func66, Try.ntmps66
  go_wp2
  all_goals (go_ret; exact ⟨ret_bool (by simp [inB]; try omega), rfl⟩)
theorem l1In_is {n lo hi : Int} {b : Bool} (h : inB n lo hi = b) (w : World) (m : Nat) :
    Calls Try.prog 66 #[.int .i64 n, .int .i64 lo, .int .i64 hi] (w.drewN m) fun e w' => e = .returned (.bool b) ∧ ∃ k, w' = w.drewN k :=
  Calls.quiet_of_same ((l1In_any n lo hi (w.drewN m)).mono (fun e w' hh => ⟨by rw [← h]; exact hh.1, hh.2.symm⟩))

theorem l1All_any (a : Option Addr) (xs : List Int) (cap : Nat) (lo hi : Int) (w : World) (hx : Rd w a xs) :
    Calls Try.prog 103 #[.slice a xs.length cap, .int .i64 lo, .int .i64 hi] w fun e w' => e = .returned (.bool (allB xs lo hi)) ∧ w = w' := by
  have hlen := hx.len
  go_enter Try.func103, Try.ntmps103
  go_wp2_with fail
  go_loop [11] (fun i => ∃ k : Nat, k ≤ xs.length ∧ i = .int .i64 k ∧ allB (xs.take k) lo hi = true) (fun i => xs.length - (intOf i).toNat)
  case atStart => exact ⟨0, Nat.zero_le _, rfl, rfl⟩
  case round =>
    obtain ⟨k, hk, rfl, hall⟩ := hrel
    by_cases hlt : k < xs.length
    · obtain ⟨b, off, rfl, hbl, hc⟩ := hx.cell k hlt
      cases hin : inB (nth xs k) lo hi
      · have hf := Lib.hid (allB_false hlt hin)
        go_wp2_with (go_at_call 66; refine (l1In_any _ _ _ _).mono ?_; rintro e w' ⟨rfl, rfl⟩)
        go_ret
        exact ⟨ret_bool hf.out.symm, rfl⟩
      · go_wp2_with (go_at_call 66; refine (l1In_any _ _ _ _).mono ?_; rintro e w' ⟨rfl, rfl⟩)
        go_round
        case rel => exact ⟨k + 1, by omega, by go_num, by rw [allB_take _ _ _ _ hlt, hall, hin]; rfl⟩
        case measure => simp [intOf]; omega
    · go_wp2_with fail
      go_ret
      exact ⟨ret_bool (by rw [← hall, List.take_of_length_le (by omega)]), rfl⟩
theorem l1All_is {a : Option Addr} {xs : List Int} {cap : Nat} {lo hi : Int} {b : Bool} {w : World} (hx : Rd w a xs) (h : allB xs lo hi = b) (m : Nat) :
    Calls Try.prog 103 #[.slice a xs.length cap, .int .i64 lo, .int .i64 hi] (w.drewN m) fun e w' => e = .returned (.bool b) ∧ ∃ k, w' = w.drewN k :=
  Calls.quiet_of_same ((l1All_any a xs cap lo hi (w.drewN m) (hx.below (Joins.below_draws _ _ _))).mono (fun e w' hh => ⟨by rw [← h]; exact hh.1, hh.2.symm⟩))

theorem orRelation_any (n : Int) (a : Option Addr) (xs : List Int) (cap : Nat) (w : World) (hx : Rd w a xs) :
    Calls Try.prog 87 #[.agg #[.int .i64 n, .slice a xs.length cap]] w fun e w' => e = .returned (.bool (relB n xs)) ∧ Below w.heap.size w w' := by
  have hx1 := hx.alloc (.cells #[.int .i64 n, .slice a xs.length cap] 32)
  cases h1 : inB n 0 10
  · have HR : Hid (relB n xs = false) := by simp [Hid, relB, h1]
    go_enter Try.func87, Try.ntmps87
    go_wp2_with fail
    go_quiet ((go_at_call 66; exact l1In_is h1 _ _))
    go_wp2_with fail
    go_ret
    exact ⟨ret_bool HR.out.symm, (Below.refl _ _).alloc (Nat.le_refl _) _ |>.trans (Joins.below_draws _ _ _)⟩
  · have hn := inB_iff.1 h1
    cases h2 : ((xs.length : Int) == n)
    · have HR : Hid (relB n xs = false) := by
        have : ¬ (xs.length : Int) = n := by simpa using h2
        simp [Hid, relB, h1, this]
      go_enter Try.func87, Try.ntmps87
      go_wp2_with fail
      go_quiet ((go_at_call 66; exact l1In_is h1 _ _))
      go_wp2_with fail
      go_ret
      exact ⟨ret_bool HR.out.symm, (Below.refl _ _).alloc (Nat.le_refl _) _ |>.trans (Joins.below_draws _ _ _)⟩
    · cases h3 : allB xs 0 (wrap64 (wrap64 (2 ^ n.toNat) - 1))
      all_goals
        have HR : Hid (relB n xs = allB xs 0 (wrap64 (wrap64 (2 ^ n.toNat) - 1))) := by
          have : (xs.length : Int) = n := by simpa using h2
          simp only [Hid, relB, h1, this, full_eq hn.1 hn.2]
          simp
        have H3 := Lib.hid h3
        clear h3
        go_enter Try.func87, Try.ntmps87
        go_wp2_with fail
        go_quiet ((first | (go_at_call 66; exact l1In_is h1 _ _) | (go_at_call 103; exact l1All_is hx1 H3.out _)))
        go_wp2_with fail
        go_ret
        exact ⟨ret_bool (by rw [HR.out, H3.out]), (Below.refl _ _).alloc (Nat.le_refl _) _ |>.trans (Joins.below_draws _ _ _)⟩

theorem elem_at {n : Int} {xs : List Int} (hp : RelP n xs) {k : Nat} (hk : k < xs.length) {m : Nat} (hm : m < (elems (nth xs k).toNat).length) :
    ∃ i : Nat, i < xs.length ∧ hasB (nth xs k) i = true ∧ nth (elems (nth xs k).toNat) m = (i : Int) := by
  have h1 := hp.small k hk
  have h0 := hp.pos k hk
  obtain ⟨i, hb, e⟩ := (mem_elems (by omega)).1 (nth_mem hm)
  exact ⟨i, has_lt hp hk hb, hb, e⟩
theorem at_elem {n : Int} {xs : List Int} (hp : RelP n xs) {k : Nat} (hk : k < xs.length) {j : Nat} (h : hasB (nth xs k) j = true) :
    ∃ m, m < (elems (nth xs k).toNat).length ∧ nth (elems (nth xs k).toNat) m = (j : Int) := by
  have h1 := hp.small k hk
  have h0 := hp.pos k hk
  have : (j : Int) ∈ elems (nth xs k).toNat := (mem_elems (by omega)).2 ⟨j, h, rfl⟩
  obtain ⟨m, hm, e⟩ := mem_nth this
  exact ⟨m, hm, e⟩
theorem orGood_any (n : Int) (a : Option Addr) (xs : List Int) (cap : Nat) (w : World) (hx : Rd w a xs) :
    Calls Try.prog 53 #[.agg #[.int .i64 n, .slice a xs.length cap]] w fun e w' => e = .returned (.bool (ordB n xs)) ∧ Below w.heap.size w w' := by
  have hx1 := hx.alloc (.cells #[.int .i64 n, .slice a xs.length cap] 32)
  have hlen := hx.len
  cases hr : relB n xs
  · have HR : Hid (ordB n xs = false) := by simp [Hid, ordB, hr]
    go_enter Try.func53, Try.ntmps53
    go_wp2_with fail
    refine (orRelation_any _ _ _ _ _ hx1).mono ?_
    rintro e w1 ⟨rfl, hb1⟩
    go_wp2_with fail
    go_ret
    exact ⟨ret_bool HR.out.symm, Below.trans (by repeat (first | exact Below.refl _ _ | assumption | refine Below.alloc ?_ (by first | exact Nat.le_refl _ | (simp only [World.size_alloc, World.size_setCell, World.size_drew]; omega) | omega) _ | refine Below.setCell ?_ (by first | exact Nat.le_refl _ | (simp only [World.size_alloc, World.size_setCell, World.size_drew]; omega) | omega) _ | refine Below.drew ?_)) (hb1.mono (by first | (simp only [World.size_alloc, World.size_setCell, World.size_drew]; omega) | omega))⟩
  · have hp := relB_p hr
    go_enter Try.func53, Try.ntmps53
    go_wp2_with fail
    refine (orRelation_any _ _ _ _ _ hx1).mono ?_
    rintro e w1 ⟨rfl, hb1⟩
    have B1 := (Box2.new w _ _ _).below hb1
    have ⟨z1, c1, d1⟩ := B1
    have bw1 : Below w.heap.size w w1 := Below.trans (by repeat (first | exact Below.refl _ _ | assumption | refine Below.alloc ?_ (by first | exact Nat.le_refl _ | (simp only [World.size_alloc, World.size_setCell, World.size_drew]; omega) | omega) _ | refine Below.setCell ?_ (by first | exact Nat.le_refl _ | (simp only [World.size_alloc, World.size_setCell, World.size_drew]; omega) | omega) _ | refine Below.drew ?_)) (hb1.mono (by first | (simp only [World.size_alloc, World.size_setCell, World.size_drew]; omega) | omega))
    have HR := Lib.hid hr
    clear hb1
    go_wp2_with fail
    clear hr
    go_loopw [13] (fun i wr => ∃ k : Nat, k ≤ xs.length ∧ i = .int .i64 k ∧ (∀ j, j < k → okAtB xs j = true) ∧ Below w1.heap.size w1 wr) (fun i _ => xs.length - (intOf i).toNat)
    case atStart => exact ⟨0, Nat.zero_le _, rfl, fun j hj => by omega, Below.refl _ _⟩
    case round =>
      obtain ⟨k, hk, rfl, hall, hb⟩ := hrel
      have Br := B1.below hb
      have ⟨zr, cr, dr⟩ := Br
      have bwr := bw1.trans (hb.mono bw1.size)
      have HA := Lib.hid hall
      clear hall c1 d1
      by_cases hlt : k < xs.length
      · obtain ⟨b, off, rfl, hbl, hc⟩ := (hx.below bwr).cell k hlt
        have hpk := hp.pos k hlt
        have hsk := hp.small k hlt
        have hsk' : nth xs k ≤ 9223372036854775807 := by omega
        cases hin : hasB (nth xs k) k
        · go_wp2_with fail
          refine (orHas_any _ _ _ hpk hsk' (by omega)).mono ?_
          rintro e w' ⟨rfl, rfl⟩
          go_wp2_with fail
          refine (orList_any _ _ hpk hsk).mono ?_
          rintro e w2 ⟨a2, cap2, rfl, ho2, hb2⟩
          have ⟨z2, c2, d2⟩ := Br.below hb2
          have bw2 := bwr.trans (hb2.mono bwr.size)
          have hx2 := hx.below bw2
          have hr2 := ho2.rd
          have bk2 := hb.trans (hb2.mono hb.size)
          have hel := elems_len (nth xs k).toNat
          have HI := Lib.hid hin
          clear hin cr dr hc
          obtain ⟨es, hes⟩ : ∃ es, es = elems (nth xs k).toNat := ⟨_, rfl⟩
          rw [← hes] at ho2 hr2 hel
          have HES := Lib.hid hes
          rw [← hes]
          clear hes ho2 hb2
          go_wp2_with fail
          go_loop [24] (fun i => ∃ j : Nat, j ≤ es.length ∧ i = .int .i64 j ∧ (∀ m, m < j → sub (nth xs (nth es m).toNat).toNat (nth xs k).toNat = 0)) (fun i => es.length - (intOf i).toNat)
          case atStart => exact ⟨0, Nat.zero_le _, rfl, fun m hm => by omega⟩
          case round =>
            obtain ⟨j, hj, rfl, hin2⟩ := hrel
            have HIN := Lib.hid hin2
            clear hin2
            by_cases hjl : j < es.length
            · obtain ⟨b2, off2, rfl, hbl2, hc2⟩ := hr2.cell j hjl
              obtain ⟨i, hil, hib, hie⟩ : ∃ i : Nat, i < xs.length ∧ hasB (nth xs k) i = true ∧ nth es j = (i : Int) := by
                have := elem_at hp hlt (m := j) (by rw [← HES.out]; exact hjl)
                rw [← HES.out] at this
                exact this
              obtain ⟨b3, off3, e3, hbl3, hc3⟩ := hx2.cell i hil
              simp only [Option.some.injEq, Addr.mk.injEq, and_true] at e3
              obtain ⟨rfl, rfl⟩ := e3
              have hpi := hp.pos i hil
              have hsi := hp.small i hil
              have hsub := sub_i (a := nth xs i) (b := nth xs k) hpi (by omega) hpk (by omega)
              have HB := Lib.hid hib
              have HE := Lib.hid hie
              rw [hie] at hc2
              clear hib hie
              by_cases hz : sub (nth xs i).toNat (nth xs k).toNat = 0
              · have hne : (bits BinOp.andNot IntKind.i64 (nth xs i) (nth xs k) != 0) = false := by rw [hsub, hz]; rfl
                have HZ := Lib.hid hz
                clear hz hsub
                go_wp2_with fail
                go_round
                case rel =>
                  refine ⟨j + 1, by omega, by go_num, fun m hm => ?_⟩
                  by_cases e : m = j
                  · rw [e, HE.out, Int.toNat_natCast]; exact HZ.out
                  · exact HIN.out m (by omega)
                case measure => simp [intOf]; omega
              · have hne : (bits BinOp.andNot IntKind.i64 (nth xs i) (nth xs k) != 0) = true := by rw [hsub]; simp; omega
                have HN := Lib.hid (ordB_no (n := n) hlt (okAtB_sub hil HB.out hz))
                clear hz hsub
                go_wp2_with fail
                go_ret
                exact ⟨ret_bool HN.out.symm, bw2⟩
            · obtain rfl : j = es.length := by omega
              have hok : okAtB xs k = true := by
                rw [okAtB_iff]
                refine ⟨HI.out, fun j hj hbj => ?_⟩
                obtain ⟨m, hm, e⟩ := at_elem hp hlt hbj
                rw [← HES.out] at hm e
                have := HIN.out m hm
                rwa [e, Int.toNat_natCast] at this
              have HK := Lib.hid hok
              clear hok
              go_wp2_with fail
              go_roundw
              case rel =>
                refine ⟨k + 1, by omega, by go_num, fun j hj => ?_, bk2⟩
                by_cases e : j = k
                · rw [e]; exact HK.out
                · exact HA.out j (by omega)
              case measure => simp [intOf]; omega
        · have HN := Lib.hid (ordB_no (n := n) hlt (okAtB_has hin))
          go_wp2_with fail
          refine (orHas_any _ _ _ hpk hsk' (by omega)).mono ?_
          rintro e w' ⟨rfl, rfl⟩
          go_wp2_with fail
          go_ret
          exact ⟨ret_bool HN.out.symm, bwr⟩
      · obtain rfl : k = xs.length := by omega
        go_wp2_with fail
        go_ret
        exact ⟨ret_bool (ordB_iff.2 ⟨HR.out, HA.out⟩).symm, bwr⟩

theorem lpB_ord {n : Int} {xs : List Int} (h : ordB n xs = true) {k : Nat} (hk : k < 10) : lpB n xs ((k : Int) + 1) = !opn xs ((k : Int) + 1) := by
  have : inB ((k : Int) + 1) 1 10 = true := inB_iff.2 ⟨by omega, by omega⟩
  simp [lpB, lpOk, h, this]
theorem sLeastTh_any (n : Int) (a : Option Addr) (xs : List Int) (cap : Nat) (w : World) (hn : -9223372036854775808 ≤ n ∧ n ≤ 9223372036854775807) (hx : Rd w a xs) :
    Calls Try.prog 45 #[.agg #[.int .i64 n, .slice a xs.length cap]] w fun e w' => e = .returned (.tuple #[.int .i64 (ltR n xs), .bool (ltO n xs)]) ∧ Below w.heap.size w w' := by
  have hx1 := hx.alloc (.cells #[.int .i64 n, .slice a xs.length cap] 32)
  cases hr : ordB n xs
  · have hf : ltF n xs = none := lt_none (fun j _ => by simp [lpB, lpOk, hr])
    have H1 : Hid (ltR n xs = 0) := by simp [Hid, ltR, hf]
    have H2 : Hid (ltO n xs = false) := by simp [Hid, ltO, hf]
    have HR := Lib.hid hr
    clear hf hr
    go_enter Try.func45, Try.ntmps45
    go_wp2_with fail
    refine (orGood_any _ _ _ _ _ hx1).mono ?_
    rw [HR.out]
    rintro e w1 ⟨rfl, hb1⟩
    have bw1 : Below w.heap.size w w1 := Below.trans (by repeat (first | exact Below.refl _ _ | assumption | refine Below.alloc ?_ (by first | exact Nat.le_refl _ | (simp only [World.size_alloc, World.size_setCell, World.size_drew]; omega) | omega) _ | refine Below.setCell ?_ (by first | exact Nat.le_refl _ | (simp only [World.size_alloc, World.size_setCell, World.size_drew]; omega) | omega) _ | refine Below.drew ?_)) (hb1.mono (by first | (simp only [World.size_alloc, World.size_setCell, World.size_drew]; omega) | omega))
    go_wp2_with fail
    go_ret2
    exact ⟨ret_ib H1.out.symm H2.out.symm, bw1⟩
  · have hp := ord_rel hr
    have HLB := Lib.hid (fun k (hk : k < 10) => lpB_ord hr hk)
    have HR := Lib.hid hr
    clear hr
    go_enter Try.func45, Try.ntmps45
    go_wp2_with fail
    refine (orGood_any _ _ _ _ _ hx1).mono ?_
    rw [HR.out]
    rintro e w1 ⟨rfl, hb1⟩
    have A1 : Box2 w1 w.heap.size (.int .i64 n) (.slice a xs.length cap) := (Box2.new w _ _ _).below hb1
    have bw1 : Below w.heap.size w w1 := Below.trans (by repeat (first | exact Below.refl _ _ | assumption | refine Below.alloc ?_ (by first | exact Nat.le_refl _ | (simp only [World.size_alloc, World.size_setCell, World.size_drew]; omega) | omega) _ | refine Below.setCell ?_ (by first | exact Nat.le_refl _ | (simp only [World.size_alloc, World.size_setCell, World.size_drew]; omega) | omega) _ | refine Below.drew ?_)) (hb1.mono (by first | (simp only [World.size_alloc, World.size_setCell, World.size_drew]; omega) | omega))
    clear hb1
    go_wp2_with fail
    go_loopw [4] (fun i wr => ∃ k : Nat, k ≤ 10 ∧ i = .int .i64 ((k : Int) + 1) ∧ (∀ j : Nat, j < k → lpB n xs ((j : Int) + 1) = false) ∧ Below w.heap.size w wr ∧ Box2 wr w.heap.size (.int .i64 n) (.slice a xs.length cap)) (fun i _ => 11 - (intOf i).toNat)
    case atStart => exact ⟨0, by omega, rfl, fun j hj => by omega, bw1, A1⟩
    case round =>
      obtain ⟨k, hk, rfl, hall, hb, hB⟩ := hrel
      have HA := Lib.hid hall
      have ⟨zB, cB, dB⟩ := hB
      clear hall
      by_cases hlt : k < 10
      · have k1 : (k : Int) + 1 ≤ 10 := by omega
        have k0 : (1 : Int) ≤ (k : Int) + 1 := by omega
        have hlb := HLB.out k hlt
        cases hl : lpB n xs ((k : Int) + 1)
        · have hL : 0 ≤ (fin xs ((k : Int) + 1)).L := by rw [hl] at hlb; simpa [opn] using hlb
          have HL := Lib.hid hl
          clear hl hlb
          go_wp2_with fail
          refine (seRounds_any _ _ _ _ _ _ (hx.below hb) hp k0 k1).mono ?_
          rintro e w2 ⟨g1, g2, rfl, hg, hP2, hR2, hb2⟩
          have bw2 := hb.trans (hb2.mono hb.size)
          have B2 := hB.below hb2
          clear hP2 hR2 hb2 cB dB hg
          go_wp2_with fail
          go_roundw
          case rel =>
            refine ⟨k + 1, by omega, by go_num, fun j hj => ?_, bw2, B2⟩
            by_cases e : j = k
            · rw [e]; exact HL.out
            · exact HA.out j (by omega)
          case measure => simp [intOf]; omega
        · have hL : ¬ 0 ≤ (fin xs ((k : Int) + 1)).L := by rw [hl] at hlb; simpa [opn] using hlb
          have hL2 : (fin xs ((k : Int) + 1)).L < 0 := by omega
          have hf := lt_at hlt hl HA.out
          have H1 : Hid (ltR n xs = (k : Int) + 1) := by simp [Hid, ltR, hf]
          have H2 : Hid (ltO n xs = true) := by simp [Hid, ltO, hf]
          clear hl hf hlb hL
          go_wp2_with fail
          refine (seRounds_any _ _ _ _ _ _ (hx.below hb) hp k0 k1).mono ?_
          rintro e w2 ⟨g1, g2, rfl, hg, hP2, hR2, hb2⟩
          have bw2 := hb.trans (hb2.mono hb.size)
          clear hP2 hR2 hb2 cB dB hg
          go_wp2_with fail
          go_ret2
          exact ⟨ret_ib H1.out.symm H2.out.symm, bw2⟩
      · obtain rfl : k = 10 := by omega
        have hf := lt_none HA.out
        have H1 : Hid (ltR n xs = 0) := by simp [Hid, ltR, hf]
        have H2 : Hid (ltO n xs = false) := by simp [Hid, ltO, hf]
        clear hf
        go_wp2_with fail
        go_ret2
        exact ⟨ret_ib H1.out.symm H2.out.symm, hb⟩

/-- a block of four cells -/
def Box4 (w : World) (b : Nat) (u v x y : Value) : Prop := b < w.heap.size ∧ w.cell? ⟨b, 0, none⟩ = some u ∧ w.cell? ⟨b, 1, none⟩ = some v ∧ w.cell? ⟨b, 2, none⟩ = some x ∧ w.cell? ⟨b, 3, none⟩ = some y
/-- that may be written -/
def Var4 (w : World) (b : Nat) (u v x y : Value) : Prop := Box4 w b u v x y ∧ w.frozen? ⟨b, 0, none⟩ = false ∧ w.frozen? ⟨b, 1, none⟩ = false ∧ w.frozen? ⟨b, 2, none⟩ = false ∧ w.frozen? ⟨b, 3, none⟩ = false
theorem Var4.new (w : World) (u v x y : Value) (t : TypeId) : Var4 (w.alloc (.cells #[u, v, x, y] t)) w.heap.size u v x y :=
  ⟨⟨by simp, by simp, by simp, by simp, by simp⟩, by simp, by simp, by simp, by simp⟩
theorem Var4.same {w w' : World} {b : Nat} {u v x y : Value} (h : Var4 w b u v x y) (hs : w.heap.size ≤ w'.heap.size) (hb : w'.heap[b]? = w.heap[b]?) : Var4 w' b u v x y := by
  obtain ⟨⟨h0, h1, h2, h3, h4⟩, f1, f2, f3, f4⟩ := h
  have c : ∀ o, w'.cell? ⟨b, o, none⟩ = w.cell? ⟨b, o, none⟩ := fun o => World.cell?_of_block (w := w) (a := ⟨b, o, none⟩) hb
  have f : ∀ o, w'.frozen? ⟨b, o, none⟩ = w.frozen? ⟨b, o, none⟩ := fun o => World.frozen?_of_block (w := w) (a := ⟨b, o, none⟩) hb
  exact ⟨⟨Nat.lt_of_lt_of_le h0 hs, (c 0).trans h1, (c 1).trans h2, (c 2).trans h3, (c 3).trans h4⟩, (f 0).trans f1, (f 1).trans f2, (f 2).trans f3, (f 3).trans f4⟩
theorem Var4.below {w w' : World} {b : Nat} {u v x y : Value} (h : Var4 w b u v x y) (hb : Below w.heap.size w w') : Var4 w' b u v x y := h.same hb.size (hb.block b h.1.1)
theorem Var4.kept {w w' : World} {b : Nat} {u v x y : Value} {row : Option Nat} (h : Var4 w b u v x y) (hg : w.grownBy w' row) (hne : some b ≠ row) : Var4 w' b u v x y := h.same hg.size (hg.block b h.1.1 hne)
theorem Var4.other {w : World} {b : Nat} {u v x y : Value} (h : Var4 w b u v x y) {p : Addr} (z : Value) (hne : b ≠ p.block) : Var4 (w.setCell p z) b u v x y := h.kept (grown_set w p z) (by simpa using hne)
theorem Var4.set3 {w : World} {b : Nat} {u v x y : Value} (h : Var4 w b u v x y) (z : Value) : Var4 (w.setCell ⟨b, 3, none⟩ z) b u v x z := by
  obtain ⟨⟨h0, h1, h2, h3, h4⟩, f1, f2, f3, f4⟩ := h
  refine ⟨⟨by simpa using h0, ?_, ?_, ?_, ?_⟩, by simpa using f1, by simpa using f2, by simpa using f3, by simpa using f4⟩
  · rw [World.cell?_setCell_other _ _ _ _ (by simp)]; exact h1
  · rw [World.cell?_setCell_other _ _ _ _ (by simp)]; exact h2
  · rw [World.cell?_setCell_other _ _ _ _ (by simp)]; exact h3
  · rw [World.cell?_setCell_same _ _ _ h4]
theorem Var4.set2 {w : World} {b : Nat} {u v x y : Value} (h : Var4 w b u v x y) (z : Value) : Var4 (w.setCell ⟨b, 2, none⟩ z) b u v z y := by
  obtain ⟨⟨h0, h1, h2, h3, h4⟩, f1, f2, f3, f4⟩ := h
  refine ⟨⟨by simpa using h0, ?_, ?_, ?_, ?_⟩, by simpa using f1, by simpa using f2, by simpa using f3, by simpa using f4⟩
  · rw [World.cell?_setCell_other _ _ _ _ (by simp)]; exact h1
  · rw [World.cell?_setCell_other _ _ _ _ (by simp)]; exact h2
  · rw [World.cell?_setCell_same _ _ _ h3]
  · rw [World.cell?_setCell_other _ _ _ _ (by simp)]; exact h4
theorem Var4.set1 {w : World} {b : Nat} {u v x y : Value} (h : Var4 w b u v x y) (z : Value) : Var4 (w.setCell ⟨b, 1, none⟩ z) b u z x y := by
  obtain ⟨⟨h0, h1, h2, h3, h4⟩, f1, f2, f3, f4⟩ := h
  refine ⟨⟨by simpa using h0, ?_, ?_, ?_, ?_⟩, by simpa using f1, by simpa using f2, by simpa using f3, by simpa using f4⟩
  · rw [World.cell?_setCell_other _ _ _ _ (by simp)]; exact h1
  · rw [World.cell?_setCell_same _ _ _ h2]
  · rw [World.cell?_setCell_other _ _ _ _ (by simp)]; exact h3
  · rw [World.cell?_setCell_other _ _ _ _ (by simp)]; exact h4
theorem Var4.set0 {w : World} {b : Nat} {u v x y : Value} (h : Var4 w b u v x y) (z : Value) : Var4 (w.setCell ⟨b, 0, none⟩ z) b z v x y := by
  obtain ⟨⟨h0, h1, h2, h3, h4⟩, f1, f2, f3, f4⟩ := h
  refine ⟨⟨by simpa using h0, ?_, ?_, ?_, ?_⟩, by simpa using f1, by simpa using f2, by simpa using f3, by simpa using f4⟩
  · rw [World.cell?_setCell_same _ _ _ h1]
  · rw [World.cell?_setCell_other _ _ _ _ (by simp)]; exact h2
  · rw [World.cell?_setCell_other _ _ _ _ (by simp)]; exact h3
  · rw [World.cell?_setCell_other _ _ _ _ (by simp)]; exact h4

def belows (xs : List Int) (k : Nat) : List Int := fmap (fun i => ((belowTo xs i xs.length : Nat) : Int)) k
theorem belows_len (xs : List Int) (k : Nat) : (belows xs k).length = k := fmap_len _ _

theorem hasElement_any (s i : Int) (w : World) (h0 : 0 ≤ s) (h1 : s ≤ 9223372036854775807) (hi : 0 ≤ i) :
    Calls Try.prog 92 #[.int .i64 s, .int .i64 i] w fun e w' => e = .returned (.bool (hasB s i)) ∧ w = w' := by
  have H := Lib.hid (has_and h0 h1 hi)
  go_enter Try.func92, Try.ntmps92
  go_wp2
  go_ret
  exact ⟨ret_bool H.out, rfl⟩

theorem belowSet_any (n : Int) (a : Option Addr) (xs : List Int) (cap : Nat) (i : Int) (w : World) (hx : Rd w a xs) (hr : RelP n xs) (hi : 0 ≤ i) :
    Calls Try.prog 116 #[.agg #[.int .i64 n, .slice a xs.length cap], .int .i64 i] w fun e w' => e = .returned (.int .i64 (belowTo xs i xs.length)) ∧ Below w.heap.size w w' := by
  have hx1 := hx.alloc (.cells #[.int .i64 n, .slice a xs.length cap] 32)
  have hn : xs.length ≤ 10 := by have := hr.len; have := hr.n1; omega
  go_enter Try.func116, Try.ntmps116
  go_wp2_with fail
  go_loop [5, 11] (fun s i' => ∃ k : Nat, k ≤ xs.length ∧ i' = .int .i64 k ∧ s = .int .i64 (belowTo xs i k)) (fun _ i => xs.length - (intOf i).toNat)
  case atStart => exact ⟨0, Nat.zero_le _, rfl, rfl⟩
  case round =>
    obtain ⟨k, hk, rfl, rfl⟩ := hrel
    by_cases hlt : k < xs.length
    · obtain ⟨b, off, rfl, hbl, hc⟩ := hx1.cell k hlt
      obtain ⟨b', off', e', hbl', hc'⟩ := hx.cell k hlt
      simp only [Option.some.injEq, Addr.mk.injEq, and_true] at e'
      obtain ⟨rfl, rfl⟩ := e'
      have hpk := hr.pos k hlt
      have hsk : nth xs k ≤ 9223372036854775807 := by have := hr.small k hlt; omega
      have hbs := belowTo_small xs i (k := k) (by omega)
      have hor := Lib.hid (or_bit (b := belowTo xs i k) (k := k) (by omega) (by omega))
      clear hbs
      cases hin : hasB (nth xs k) i
      · go_wp2_with (go_at_call 92; refine (hasElement_any _ _ _ hpk hsk hi).mono ?_; rintro e w' ⟨rfl, rfl⟩)
        go_round
        case rel => exact ⟨k + 1, by omega, by go_num, by simp [belowTo, hin]⟩
        case measure => simp [intOf]; omega
      · go_wp2_with (go_at_call 92; refine (hasElement_any _ _ _ hpk hsk hi).mono ?_; rintro e w' ⟨rfl, rfl⟩)
        go_round
        case rel => exact ⟨k + 1, by omega, by go_num, val_int (by rw [hor.out]; simp [belowTo, hin])⟩
        case measure => simp [intOf]; omega
    · obtain rfl : k = xs.length := by omega
      go_wp2_with fail
      go_ret
      exact ⟨rfl, (by repeat (first | exact Below.refl _ _ | assumption | refine Below.alloc ?_ (by first | exact Nat.le_refl _ | (simp only [World.size_alloc, World.size_setCell, World.size_drew]; omega) | omega) _ | refine Below.setCell ?_ (by first | exact Nat.le_refl _ | (simp only [World.size_alloc, World.size_setCell, World.size_drew]; omega) | omega) _ | refine Below.drew ?_))⟩

theorem belowSets_any (n : Int) (a : Option Addr) (xs : List Int) (cap : Nat) (w : World) (hx : Rd w a xs) (hr : RelP n xs) :
    Calls Try.prog 106 #[.agg #[.int .i64 n, .slice a xs.length cap]] w fun e w' => ∃ a' cap', e = .returned (.slice a' xs.length cap') ∧ OwnI w' w.heap.size (.slice a' xs.length cap') (belows xs xs.length) ∧ Below w.heap.size w w' := by
  obtain ⟨i0, hi, hz0, hz1, hz2⟩ := info_parts infoInt
  have hn0 := hr.n0
  have hn1 := hr.n1
  obtain rfl : n = (xs.length : Int) := hr.len.symm
  have hn : xs.length ≤ 10 := by omega
  go_enter Try.func106, Try.ntmps106
  go_wp2_with (at_make; refine wpList_make_full _ rfl (.tmp 6) (.tmp 6) 23 rfl (w.heap.size + 1) 3 i0 (.int .i64 0) 1 Try.underlying23 hi hz0 hz1 .i64 .i64 _ _ xs.length rfl rfl rfl rfl (by rw [hz2]; omega) (by unfold maxLen; omega) (by simp) ?_; intro w1 hown hgrow)
  have hb0 : Below w.heap.size w w1 := ((Below.refl _ _).alloc (Nat.le_refl _) _).grown hgrow (by simp) (fun k h => by cases h)
  have hown0 := made_ints (fun i => ((belowTo xs i xs.length : Nat) : Int)) hown
  have B1 : Box2 w1 w.heap.size (.int .i64 (xs.length : Int)) (.slice a xs.length cap) := (Box2.new w _ _ _).kept hgrow (by simp)
  have hx1 : Rd w1 a xs := hx.below hb0
  clear hown hgrow
  simp only [World.size_alloc] at *
  have hz : w.heap.size + 1 < w1.heap.size := by
    have := (World.ownsRow.lt hown0 (w.heap.size + 1) rfl).2
    omega
  go_wp2_with fail
  go_loopw [10] (fun i wr => ∃ k : Nat, k ≤ xs.length ∧ i = .int .i64 k ∧ wr.ownsRow (w.heap.size + 1) 3 1 (.slice (some ⟨w.heap.size + 1, 0, none⟩) xs.length xs.length) xs.length ((fmap (fun i => ((belowTo xs i xs.length : Nat) : Int)) k ++ List.replicate (xs.length - k) (0:Int)).map (Value.int .i64)) ∧ Below w.heap.size w wr ∧ Box2 wr w.heap.size (.int .i64 (xs.length : Int)) (.slice a xs.length cap)) (fun i _ => xs.length - (intOf i).toNat)
  case atStart => exact ⟨0, Nat.zero_le _, rfl, hown0, hb0, B1⟩
  case round =>
    obtain ⟨k, hk, rfl, hown, hb, hB⟩ := hrel
    have ⟨zr, cr, dr⟩ := hB
    by_cases hlt : k < xs.length
    · go_wp2_with fail
      refine (belowSet_any _ _ _ _ _ _ (hx.below hb) hr (by omega)).mono ?_
      rintro e w2 ⟨rfl, hb2⟩
      have hown2 : w2.ownsRow (w.heap.size + 1) 3 1 (.slice (some ⟨w.heap.size + 1, 0, none⟩) xs.length xs.length) xs.length _ := World.ownsRow.kept hown (below_grown hb2 (Nat.le_refl _) none) (.inr (by simp [Value.ownBlock]))
      have hst := World.ownsRow.stored hown2 k (.int .i64 ((belowTo xs k xs.length : Nat) : Int))
      rw [fill_step (fun i => ((belowTo xs i xs.length : Nat) : Int)) xs.length k hlt] at hst
      have hcc := World.ownsRow.cellAt hown2 k (by omega)
      have hfr := World.ownsRow.frozenAt hown2 k
      have hcc' : ∃ u, w2.cell? ⟨w.heap.size + 1, k, none⟩ = some u := by
        rw [hcc]
        exact ⟨_, List.getElem?_eq_getElem (by simp [fmap_len]; omega)⟩
      obtain ⟨u, hu⟩ := hcc'
      have hB2 := hB.below hb2
      have hB3 := hB2.kept hst.2 (by simp)
      have hbw := hb.trans (hb2.mono hb.size)
      have Hst := Lib.hid hst
      clear hst hcc hown hown2 hb2
      go_wp2_with fail
      go_roundw
      case rel => exact ⟨k + 1, by omega, by go_num, Hst.out.1, hbw.setCell (by simp) _, hB3⟩
      case measure => simp [intOf]; omega
    · obtain rfl : k = xs.length := by omega
      go_wp2_with fail
      go_ret
      rw [fill_end] at hown
      refine ⟨_, _, rfl, OwnI.mono (B := w.heap.size + 1) ?_ (by omega), hb⟩
      show World.ownsRow _ _ _ _ _ _ _
      rw [belows_len]
      exact hown

/-- the closure that tells the weights -/
def demV (bo bt bb : Nat) : Value := .func (.func 107) #[] #[.pointer (some ⟨bo, 0, none⟩), .pointer (some ⟨bt, 0, none⟩), .pointer (some ⟨bb, 0, none⟩)]
/-- what a closure's boxes hold -/
structure DemW (w : World) (bo bt bb : Nat) (a : Option Addr) (xs : List Int) (cap : Nat) (t : Int) : Prop where
  o : Box2 w bo (.int .i64 (xs.length : Int)) (.slice a xs.length cap)
  t0 : bt < w.heap.size
  t1 : w.cell? ⟨bt, 0, none⟩ = some (.int .i64 t)
  b0 : bb < w.heap.size
  b1 : ∃ a2 c2, w.cell? ⟨bb, 0, none⟩ = some (.slice a2 xs.length c2) ∧ Rd w a2 (belows xs xs.length)
  x : Rd w a xs
theorem DemW.below {w w' : World} {bo bt bb : Nat} {a : Option Addr} {xs : List Int} {cap : Nat} {t : Int} (h : DemW w bo bt bb a xs cap t) (hb : Below w.heap.size w w') : DemW w' bo bt bb a xs cap t := by
  obtain ⟨a2, c2, h1, h2⟩ := h.b1
  exact ⟨h.o.below hb, Nat.lt_of_lt_of_le h.t0 hb.size, (hb.cell (p := ⟨bt, 0, none⟩) h.t0).trans h.t1, Nat.lt_of_lt_of_le h.b0 hb.size, ⟨a2, c2, (hb.cell (p := ⟨bb, 0, none⟩) h.b0).trans h1, h2.below hb⟩, h.x.below hb⟩
theorem weight_any (bo bt bb : Nat) (a : Option Addr) (xs : List Int) (cap : Nat) (t : Int) (i j : Nat) (w : World) (hd : DemW w bo bt bb a xs cap t) (hp : RelP (xs.length : Int) xs) (ht0 : 1 ≤ t) (ht1 : t ≤ 10) (hi : i < xs.length) (hj : j < xs.length) :
    Calls Try.prog 107 #[.int .i64 i, .int .i64 j, .pointer (some ⟨bo, 0, none⟩), .pointer (some ⟨bt, 0, none⟩), .pointer (some ⟨bb, 0, none⟩)] w fun e w' => e = .returned (.tuple #[.int .i64 (wtV xs t i j), .bool (wtO xs t i j)]) ∧ Below w.heap.size w w' := by
  obtain ⟨a2, c2, hb1, hb2⟩ := hd.b1
  have ⟨zo, co, do'⟩ := hd.o
  have ht := hd.t1
  have pi := hp.pos i hi
  have si : nth xs i ≤ 9223372036854775807 := by have := hp.small i hi; omega
  have h10 : xs.length ≤ 10 := by have := hp.len; have := hp.n1; omega
  have j0 : (0 : Int) ≤ (j : Int) := by omega
  have i0 : (0 : Int) ≤ (i : Int) := by omega
  have i1 : (i : Int) < (xs.length : Int) := by omega
  obtain ⟨b, off, rfl, hbl, hc⟩ := hd.x.cell i hi
  obtain ⟨b2, off2, rfl, hbl2, hc2⟩ := hb2.cell i (by rw [belows_len]; exact hi)
  rw [show nth (belows xs xs.length) i = _ from fmap_nth _ hi] at hc2
  have hbt := belowTo_small xs (i : Int) (k := xs.length) h10
  have q0 : (0 : Int) ≤ ((belowTo xs (i : Int) xs.length : Nat) : Int) := by omega
  have q1 : ((belowTo xs (i : Int) xs.length : Nat) : Int) ≤ 9223372036854775807 := by omega
  have HBB : Hid (hasB ((belowTo xs (i : Int) xs.length : Nat) : Int) (j : Int) = hasB (nth xs j) (i : Int)) := by
    simp only [Hid, hasB, Int.toNat_natCast]
    have := belowTo_bit xs (i : Int) j xs.length
    rw [this]
    simp [hj, hasB]
  clear hbt hd hb2
  cases h1 : hasB (nth xs i) j
  · have HH := Lib.hid h1
    by_cases hij : i = j
    · have hij' : ((i : Int) == (j : Int)) = true := by simp [hij]
      have h2 : frB xs i j = false := by
        rw [← Bool.not_eq_true]
        intro h
        exact ((frB_iff hp hi).1 h).2.2.2 hij.symm
      have H1 : Hid (wtV xs t i j = 0) := by simp [Hid, wtV, wt_no h1 h2]
      have H2 : Hid (wtO xs t i j = false) := by simp [Hid, wtO, wt_no h1 h2]
      clear h1 h2 hij
      go_enter Try.func107, Try.ntmps107
      go_wp2_with fail
      refine (hasElement_any _ _ _ pi si j0).mono ?_
      rw [HH.out]
      rintro e w' ⟨rfl, rfl⟩
      go_wp2_with fail
      go_ret2
      exact ⟨ret_ib H1.out.symm H2.out.symm, Below.refl _ _⟩
    · have hij' : ((i : Int) == (j : Int)) = false := by simp; omega
      cases h3 : hasB (nth xs j) (i : Int)
      · have h2 : frB xs i j = true := (frB_iff hp hi).2 ⟨hj, h1, h3, fun e => hij e.symm⟩
        have H1 : Hid (wtV xs t i j = 1 - t) := by simp [Hid, wtV, wt_free h1 h2]
        have H2 : Hid (wtO xs t i j = true) := by simp [Hid, wtO, wt_free h1 h2]
        have HQ : Hid (hasB ((belowTo xs (i : Int) xs.length : Nat) : Int) (j : Int) = false) := by rw [Hid, HBB.out, h3]
        clear h1 h2 h3 hij
        go_enter Try.func107, Try.ntmps107
        go_wp2_with fail
        refine (hasElement_any _ _ _ pi si j0).mono ?_
        rw [HH.out]
        rintro e w' ⟨rfl, rfl⟩
        go_wp2_with fail
        refine (hasElement_any _ _ _ q0 q1 j0).mono ?_
        rw [HQ.out]
        rintro e w' ⟨rfl, rfl⟩
        go_wp2_with fail
        go_ret2
        exact ⟨ret_ib H1.out.symm H2.out.symm, Below.refl _ _⟩
      · have h2 : frB xs i j = false := by
          rw [← Bool.not_eq_true]
          intro h
          have := ((frB_iff hp hi).1 h).2.2.1
          rw [h3] at this; cases this
        have H1 : Hid (wtV xs t i j = 0) := by simp [Hid, wtV, wt_no h1 h2]
        have H2 : Hid (wtO xs t i j = false) := by simp [Hid, wtO, wt_no h1 h2]
        have HQ : Hid (hasB ((belowTo xs (i : Int) xs.length : Nat) : Int) (j : Int) = true) := by rw [Hid, HBB.out, h3]
        clear h1 h2 h3 hij
        go_enter Try.func107, Try.ntmps107
        go_wp2_with fail
        refine (hasElement_any _ _ _ pi si j0).mono ?_
        rw [HH.out]
        rintro e w' ⟨rfl, rfl⟩
        go_wp2_with fail
        refine (hasElement_any _ _ _ q0 q1 j0).mono ?_
        rw [HQ.out]
        rintro e w' ⟨rfl, rfl⟩
        go_wp2_with fail
        go_ret2
        exact ⟨ret_ib H1.out.symm H2.out.symm, Below.refl _ _⟩
  · have HH := Lib.hid h1
    have H1 : Hid (wtV xs t i j = t) := by simp [Hid, wtV, wt_yes h1]
    have H2 : Hid (wtO xs t i j = true) := by simp [Hid, wtO, wt_yes h1]
    clear h1
    go_enter Try.func107, Try.ntmps107
    go_wp2_with fail
    refine (hasElement_any _ _ _ pi si j0).mono ?_
    rw [HH.out]
    rintro e w' ⟨rfl, rfl⟩
    go_wp2_with fail
    go_ret2
    exact ⟨ret_ib H1.out.symm H2.out.symm, Below.refl _ _⟩
theorem demandsOf_any (a : Option Addr) (xs : List Int) (cap : Nat) (t : Int) (w : World) (hx : Rd w a xs) (hp : RelP (xs.length : Int) xs) :
    Calls Try.prog 78 #[.agg #[.int .i64 (xs.length : Int), .slice a xs.length cap], .int .i64 t] w fun e w' => ∃ bo bt bb : Nat, e = .returned (.agg #[.int .i64 (xs.length : Int), demV bo bt bb]) ∧ DemW w' bo bt bb a xs cap t ∧ Below w.heap.size w w' := by
  have hx1 := hx.alloc (.cells #[.int .i64 (xs.length : Int), .slice a xs.length cap] 32)
  go_enter Try.func78, Try.ntmps78
  go_wp2_with fail
  refine (belowSets_any _ _ _ _ _ (hx.below (by repeat (first | exact Below.refl _ _ | assumption | refine Below.alloc ?_ (by first | exact Nat.le_refl _ | (simp only [World.size_alloc, World.size_setCell, World.size_drew]; omega) | omega) _ | refine Below.setCell ?_ (by first | exact Nat.le_refl _ | (simp only [World.size_alloc, World.size_setCell, World.size_drew]; omega) | omega) _ | refine Below.drew ?_))) hp).mono ?_
  rintro e w1 ⟨a2, c2, rfl, ho, hb⟩
  have A1 : Box2 w1 w.heap.size (.int .i64 (xs.length : Int)) (.slice a xs.length cap) := (((Box2.new w _ _ _).below ((Below.refl _ _).alloc (Nat.le_refl _) _)).below ((Below.refl _ _).alloc (Nat.le_refl _) _)).below hb
  have T0 : (((w.alloc (.cells #[.int .i64 (xs.length : Int), .slice a xs.length cap] 32)).alloc (.cells #[.int .i64 t] 3)).alloc (.cells #[.int .i64 0, .nilFunc] 88)).cell? ⟨w.heap.size + 1, 0, none⟩ = some (.int .i64 t) := by
    rw [((Below.refl _ _).alloc (Nat.le_refl _) _).cell (p := ⟨w.heap.size + 1, 0, none⟩) (show w.heap.size + 1 < _ by simp)]
    simp
  have T1 : w1.cell? ⟨w.heap.size + 1, 0, none⟩ = some (.int .i64 t) := by
    rw [← T0]
    exact hb.cell (p := ⟨w.heap.size + 1, 0, none⟩) (show w.heap.size + 1 < _ by simp)
  have R1 : Var2 w1 (w.heap.size + 1 + 1) (.int .i64 0) .nilFunc := by
    have := (Var2.new ((w.alloc (.cells #[.int .i64 (xs.length : Int), .slice a xs.length cap] 32)).alloc (.cells #[.int .i64 t] 3)) (.int .i64 0) .nilFunc 88).below hb
    simpa using this
  have bw1 : Below w.heap.size w w1 := Below.trans (by repeat (first | exact Below.refl _ _ | assumption | refine Below.alloc ?_ (by first | exact Nat.le_refl _ | (simp only [World.size_alloc, World.size_setCell, World.size_drew]; omega) | omega) _ | refine Below.setCell ?_ (by first | exact Nat.le_refl _ | (simp only [World.size_alloc, World.size_setCell, World.size_drew]; omega) | omega) _ | refine Below.drew ?_)) (hb.mono (by first | (simp only [World.size_alloc, World.size_setCell, World.size_drew]; omega) | omega))
  have ho1 : OwnI w1 (w.heap.size + 1 + 1 + 1) (.slice a2 xs.length c2) (belows xs xs.length) := by
    have := ho; simp only [World.size_alloc] at this; exact this
  have ⟨zA, cA, dA⟩ := A1
  have ⟨⟨zR, cR, dR⟩, fR, gR⟩ := R1
  have hsf : ∀ (W : World) (p : Addr) (f : Fn) (ls : Array Value) (cs : Array Value), (store p (.func f ls cs)).run Try.prog W = stored Try.prog W p (.func f ls cs) .plain := fun W p f ls cs => run_store _ _ _ _ _ rfl
  clear hb ho
  go_wp2_with fail
  have R3 := R1.set (.int .i64 (xs.length : Int)) (demV w.heap.size (w.heap.size + 1) w1.heap.size)
  have o3 := ((ho1.setBelow (p := ⟨w.heap.size + 1 + 1, 0, none⟩) (show w.heap.size + 1 + 1 < w.heap.size + 1 + 1 + 1 by omega) (.int .i64 (xs.length : Int))).setBelow (p := ⟨w.heap.size + 1 + 1, 1, none⟩) (show w.heap.size + 1 + 1 < w.heap.size + 1 + 1 + 1 by omega) (demV w.heap.size (w.heap.size + 1) w1.heap.size)).rd
  have A3 := (A1.set (p := ⟨w.heap.size + 1 + 1, 0, none⟩) (.int .i64 (xs.length : Int)) (show w.heap.size ≠ w.heap.size + 1 + 1 by omega)).set (p := ⟨w.heap.size + 1 + 1, 1, none⟩) (demV w.heap.size (w.heap.size + 1) w1.heap.size) (show w.heap.size ≠ w.heap.size + 1 + 1 by omega)
  have bw3 := (bw1.setCell (p := ⟨w.heap.size + 1 + 1, 0, none⟩) (show w.heap.size ≤ w.heap.size + 1 + 1 by omega) (.int .i64 (xs.length : Int))).setCell (p := ⟨w.heap.size + 1 + 1, 1, none⟩) (show w.heap.size ≤ w.heap.size + 1 + 1 by omega) (demV w.heap.size (w.heap.size + 1) w1.heap.size)
  have T3 : ((w1.setCell ⟨w.heap.size + 1 + 1, 0, none⟩ (.int .i64 (xs.length : Int))).setCell ⟨w.heap.size + 1 + 1, 1, none⟩ (demV w.heap.size (w.heap.size + 1) w1.heap.size)).cell? ⟨w.heap.size + 1, 0, none⟩ = some (.int .i64 t) := by
    rw [World.cell?_setCell_other _ _ _ _ (by simp), World.cell?_setCell_other _ _ _ _ (by simp), T1]
  have R4 := R3.alloc (.cells #[.slice a2 xs.length c2] 23)
  refine bodyPost_ret (v := .agg #[.int .i64 (xs.length : Int), demV w.heap.size (w.heap.size + 1) w1.heap.size]) (by have ⟨⟨_, q1, q2⟩, _, _⟩ := R4; simp only [demV] at q1 q2; simp [results, Try.results78, go_sem, q1, q2, demV]) rfl ?_
  refine ⟨w.heap.size, w.heap.size + 1, w1.heap.size, rfl, ?_, bw3.alloc bw3.size _⟩
  obtain ⟨wx, hwx⟩ : ∃ wx, wx = (w1.setCell ⟨w.heap.size + 1 + 1, 0, none⟩ (.int .i64 (xs.length : Int))).setCell ⟨w.heap.size + 1 + 1, 1, none⟩ (demV w.heap.size (w.heap.size + 1) w1.heap.size) := ⟨_, rfl⟩
  have hsz : wx.heap.size = w1.heap.size := by rw [hwx]; simp
  simp only [demV] at hwx A3 bw3 T3 o3
  rw [← hwx] at A3 bw3 T3 o3 ⊢
  have ha : Below wx.heap.size wx (wx.alloc (.cells #[.slice a2 xs.length c2] 23)) := (Below.refl _ _).alloc (Nat.le_refl _) _
  refine ⟨A3.below ha, by simp; omega, ?_, by simp; omega, ⟨a2, c2, by rw [← hsz]; simp, o3.below ha⟩, (hx.below bw3).below ha⟩
  rw [← T3]
  exact ha.cell (p := ⟨w.heap.size + 1, 0, none⟩) (by show w.heap.size + 1 < wx.heap.size; omega)

/-- what make([]int, n) lays -/
def madeZ (n : Nat) : Array Value := madeCells (Value.int .i64 0).cells (n * 1)
theorem make_ints (n : Nat) (h : n ≤ 1024) (W : World) : (Instr.makeSlice 23 (.int .i64 (n : Int)) (.int .i64 (n : Int))).run Try.prog W = .ok (.slice (some ⟨W.heap.size, 0, none⟩) n n) (W.alloc (.cells (madeZ n) 3)) := by
  obtain ⟨i0, hi, hz0, hz1, hz2⟩ := info_parts infoInt
  have hr := run_make (P := Try.prog) W 23 3 i0 (.int .i64 0) Try.underlying23 hi hz0 .i64 .i64 n n (by omega) (Int.le_refl _) (by rw [hz2]; omega) (by omega)
  simp only [Int.toNat_natCast, hz1] at hr
  exact hr
theorem own_made (W : World) (B n : Nat) (h : n ≤ 1024) (hB : B ≤ W.heap.size) : OwnI (W.alloc (.cells (madeZ n) 3)) B (.slice (some ⟨W.heap.size, 0, none⟩) n n) (List.replicate n 0) := by
  have := World.ownsRow_lit W (e := 3) (size := 1) (madeZ n) n hB (by unfold maxLen; omega) (size_madeCells _ _)
  unfold OwnI
  rw [List.length_replicate, List.map_replicate]
  have e : (madeZ n).toList = List.replicate n (Value.int .i64 0) := by unfold madeZ; rw [Nat.mul_one]; exact toList_madeCells_one _ n
  rw [e] at this
  exact this

/-- what stands behind the laying of two rows and their box -/
def RZ (W wx : World) (n : Nat) (s : Value) : Prop := ∃ g1 g2 p : Nat, s = .pointer (some ⟨p, 0, none⟩) ∧ Var4 wx p (.slice (some ⟨g1, 0, none⟩) n n) (.slice (some ⟨g2, 0, none⟩) n n) (.int .i64 0) (.bool false) ∧ OwnI wx W.heap.size (.slice (some ⟨g1, 0, none⟩) n n) (List.replicate n 0) ∧ OwnI wx W.heap.size (.slice (some ⟨g2, 0, none⟩) n n) (List.replicate n 0) ∧ g1 ≠ g2 ∧ g1 ≠ p ∧ g2 ≠ p ∧ W.heap.size ≤ p ∧ Below W.heap.size W wx
theorem drew_below (w : World) : Below w.heap.size w w.drew := (Below.refl _ _).drew
theorem rz2 (W : World) (n a b : Nat) (hn : n ≤ 1024) (h : (a = W.heap.size ∧ b = W.heap.size + 1) ∨ (a = W.heap.size + 1 ∧ b = W.heap.size)) (t : TypeId) :
    RZ W (((W.alloc (.cells (madeZ n) 3)).alloc (.cells (madeZ n) 3)).alloc (.cells #[.slice (some ⟨a, 0, none⟩) n n, .slice (some ⟨b, 0, none⟩) n n, .int .i64 0, .bool false] t)).drew n (.pointer (some ⟨W.heap.size + 1 + 1, 0, none⟩)) := by
  have v := (Var4.new ((W.alloc (.cells (madeZ n) 3)).alloc (.cells (madeZ n) 3)) (.slice (some ⟨a, 0, none⟩) n n) (.slice (some ⟨b, 0, none⟩) n n) (.int .i64 0) (.bool false) t).below (drew_below _)
  simp only [World.size_alloc] at v
  have o1 := ((((own_made W W.heap.size n hn (Nat.le_refl _)).alloc (.cells (madeZ n) 3)).alloc (.cells #[.slice (some ⟨a, 0, none⟩) n n, .slice (some ⟨b, 0, none⟩) n n, .int .i64 0, .bool false] t))).below (drew_below _) (Nat.le_refl _)
  have o2 := ((own_made (W.alloc (.cells (madeZ n) 3)) W.heap.size n hn (by simp)).alloc (.cells #[.slice (some ⟨a, 0, none⟩) n n, .slice (some ⟨b, 0, none⟩) n n, .int .i64 0, .bool false] t)).below (drew_below _) (Nat.le_refl _)
  simp only [World.size_alloc] at o2
  rcases h with ⟨rfl, rfl⟩ | ⟨rfl, rfl⟩
  · exact ⟨_, _, _, rfl, v, o1, o2, by omega, by omega, by omega, by omega, (by repeat (first | exact Below.refl _ _ | assumption | refine Below.alloc ?_ (by first | exact Nat.le_refl _ | (simp only [World.size_alloc, World.size_setCell, World.size_drew]; omega) | omega) _ | refine Below.setCell ?_ (by first | exact Nat.le_refl _ | (simp only [World.size_alloc, World.size_setCell, World.size_drew]; omega) | omega) _ | refine Below.drew ?_))⟩
  · exact ⟨_, _, _, rfl, v, o2, o1, by omega, by omega, by omega, by omega, (by repeat (first | exact Below.refl _ _ | assumption | refine Below.alloc ?_ (by first | exact Nat.le_refl _ | (simp only [World.size_alloc, World.size_setCell, World.size_drew]; omega) | omega) _ | refine Below.setCell ?_ (by first | exact Nat.le_refl _ | (simp only [World.size_alloc, World.size_setCell, World.size_drew]; omega) | omega) _ | refine Below.drew ?_))⟩
theorem rz1 (W : World) (n a b : Nat) (hn : n ≤ 1024) (h : (a = W.heap.size ∧ b = W.heap.size + 1 + 1) ∨ (a = W.heap.size + 1 + 1 ∧ b = W.heap.size)) (t : TypeId) :
    RZ W (((W.alloc (.cells (madeZ n) 3)).alloc (.cells #[.slice (some ⟨a, 0, none⟩) n n, .slice (some ⟨b, 0, none⟩) n n, .int .i64 0, .bool false] t)).alloc (.cells (madeZ n) 3)).drew n (.pointer (some ⟨W.heap.size + 1, 0, none⟩)) := by
  have v := ((Var4.new (W.alloc (.cells (madeZ n) 3)) (.slice (some ⟨a, 0, none⟩) n n) (.slice (some ⟨b, 0, none⟩) n n) (.int .i64 0) (.bool false) t).below ((Below.refl _ _).alloc (Nat.le_refl _) (.cells (madeZ n) 3))).below (drew_below _)
  simp only [World.size_alloc] at v
  have o1 := ((((own_made W W.heap.size n hn (Nat.le_refl _)).alloc (.cells #[.slice (some ⟨a, 0, none⟩) n n, .slice (some ⟨b, 0, none⟩) n n, .int .i64 0, .bool false] t)).alloc (.cells (madeZ n) 3))).below (drew_below _) (Nat.le_refl _)
  have o2 := (own_made ((W.alloc (.cells (madeZ n) 3)).alloc (.cells #[.slice (some ⟨a, 0, none⟩) n n, .slice (some ⟨b, 0, none⟩) n n, .int .i64 0, .bool false] t)) W.heap.size n hn (by simp; omega)).below (drew_below _) (Nat.le_refl _)
  simp only [World.size_alloc] at o2
  rcases h with ⟨rfl, rfl⟩ | ⟨rfl, rfl⟩
  · exact ⟨_, _, _, rfl, v, o1, o2, by omega, by omega, by omega, by omega, (by repeat (first | exact Below.refl _ _ | assumption | refine Below.alloc ?_ (by first | exact Nat.le_refl _ | (simp only [World.size_alloc, World.size_setCell, World.size_drew]; omega) | omega) _ | refine Below.setCell ?_ (by first | exact Nat.le_refl _ | (simp only [World.size_alloc, World.size_setCell, World.size_drew]; omega) | omega) _ | refine Below.drew ?_))⟩
  · exact ⟨_, _, _, rfl, v, o2, o1, by omega, by omega, by omega, by omega, (by repeat (first | exact Below.refl _ _ | assumption | refine Below.alloc ?_ (by first | exact Nat.le_refl _ | (simp only [World.size_alloc, World.size_setCell, World.size_drew]; omega) | omega) _ | refine Below.setCell ?_ (by first | exact Nat.le_refl _ | (simp only [World.size_alloc, World.size_setCell, World.size_drew]; omega) | omega) _ | refine Below.drew ?_))⟩
theorem rz0 (W : World) (n a b : Nat) (hn : n ≤ 1024) (h : (a = W.heap.size + 1 ∧ b = W.heap.size + 1 + 1) ∨ (a = W.heap.size + 1 + 1 ∧ b = W.heap.size + 1)) (t : TypeId) :
    RZ W (((W.alloc (.cells #[.slice (some ⟨a, 0, none⟩) n n, .slice (some ⟨b, 0, none⟩) n n, .int .i64 0, .bool false] t)).alloc (.cells (madeZ n) 3)).alloc (.cells (madeZ n) 3)).drew n (.pointer (some ⟨W.heap.size, 0, none⟩)) := by
  have v := (((Var4.new W (.slice (some ⟨a, 0, none⟩) n n) (.slice (some ⟨b, 0, none⟩) n n) (.int .i64 0) (.bool false) t).below ((Below.refl _ _).alloc (Nat.le_refl _) (.cells (madeZ n) 3))).below ((Below.refl _ _).alloc (Nat.le_refl _) (.cells (madeZ n) 3))).below (drew_below _)
  have o1 := ((own_made (W.alloc (.cells #[.slice (some ⟨a, 0, none⟩) n n, .slice (some ⟨b, 0, none⟩) n n, .int .i64 0, .bool false] t)) W.heap.size n hn (by simp)).alloc (.cells (madeZ n) 3)).below (drew_below _) (Nat.le_refl _)
  have o2 := (own_made ((W.alloc (.cells #[.slice (some ⟨a, 0, none⟩) n n, .slice (some ⟨b, 0, none⟩) n n, .int .i64 0, .bool false] t)).alloc (.cells (madeZ n) 3)) W.heap.size n hn (by simp; omega)).below (drew_below _) (Nat.le_refl _)
  simp only [World.size_alloc] at o1 o2
  rcases h with ⟨rfl, rfl⟩ | ⟨rfl, rfl⟩
  · exact ⟨_, _, _, rfl, v, o1, o2, by omega, by omega, by omega, by omega, (by repeat (first | exact Below.refl _ _ | assumption | refine Below.alloc ?_ (by first | exact Nat.le_refl _ | (simp only [World.size_alloc, World.size_setCell, World.size_drew]; omega) | omega) _ | refine Below.setCell ?_ (by first | exact Nat.le_refl _ | (simp only [World.size_alloc, World.size_setCell, World.size_drew]; omega) | omega) _ | refine Below.drew ?_))⟩
  · exact ⟨_, _, _, rfl, v, o2, o1, by omega, by omega, by omega, by omega, (by repeat (first | exact Below.refl _ _ | assumption | refine Below.alloc ?_ (by first | exact Nat.le_refl _ | (simp only [World.size_alloc, World.size_setCell, World.size_drew]; omega) | omega) _ | refine Below.setCell ?_ (by first | exact Nat.le_refl _ | (simp only [World.size_alloc, World.size_setCell, World.size_drew]; omega) | omega) _ | refine Below.drew ?_))⟩
set_option maxRecDepth 100000 in
set_option maxHeartbeats 1000000 in
theorem raise_any (bo bt bb : Nat) (a : Option Addr) (xs : List Int) (cap : Nat) (t : Int) (w : World) (hd : DemW w bo bt bb a xs cap t) (hp : RelP (xs.length : Int) xs) (ht0 : 1 ≤ t) (ht1 : t ≤ 10) :
    Calls Try.prog 79 #[.agg #[.int .i64 (xs.length : Int), demV bo bt bb]] w fun e w' => ∃ (g1 g2 : Nat) (l : Int), e = .returned (.agg #[.slice (some ⟨g1, 0, none⟩) xs.length xs.length, .slice (some ⟨g2, 0, none⟩) xs.length xs.length, .int .i64 l, .bool (opn xs t)]) ∧ (opn xs t = true → l = (fin xs t).L) ∧
      OwnI w' w.heap.size (.slice (some ⟨g1, 0, none⟩) xs.length xs.length) (fin xs t).P ∧ OwnI w' w.heap.size (.slice (some ⟨g2, 0, none⟩) xs.length xs.length) (fin xs t).R ∧ Below w.heap.size w w' := by
  have h10 : xs.length ≤ 10 := by have := hp.len; have := hp.n1; omega
  obtain ⟨i0, hi, hz0, hz1, hz2⟩ := info_parts infoInt
  have b2 : i0.bytes * xs.length ≤ 281474976710656 := by rw [hz2]; omega
  have b3 : xs.length ≤ maxLen := by unfold maxLen; omega
  unfold demV
  go_enter Try.func79, Try.ntmps79
  obtain ⟨w1, hw1⟩ : ∃ w1, w1 = (w.alloc (.cells #[.int .i64 (xs.length : Int), demV bo bt bb] 88)).alloc (.cells #[.slice none 0 0, .slice none 0 0, .int .i64 0, .bool false] 85) := ⟨_, rfl⟩
  have A1 : Box2 w1 w.heap.size (.int .i64 (xs.length : Int)) (demV bo bt bb) := by rw [hw1]; exact (Box2.new w _ _ _).below ((Below.refl _ _).alloc (Nat.le_refl _) _)
  have V1 : Var4 w1 (w.heap.size + 1) (.slice none 0 0) (.slice none 0 0) (.int .i64 0) (.bool false) := by
    have := Var4.new (w.alloc (.cells #[.int .i64 (xs.length : Int), demV bo bt bb] 88)) (.slice none 0 0) (.slice none 0 0) (.int .i64 0) (.bool false) 85
    rw [hw1]; simpa using this
  have bw1 : Below w.heap.size w w1 := by rw [hw1]; exact (by repeat (first | exact Below.refl _ _ | assumption | refine Below.alloc ?_ (by first | exact Nat.le_refl _ | (simp only [World.size_alloc, World.size_setCell, World.size_drew]; omega) | omega) _ | refine Below.setCell ?_ (by first | exact Nat.le_refl _ | (simp only [World.size_alloc, World.size_setCell, World.size_drew]; omega) | omega) _ | refine Below.drew ?_))
  have hs1 : w1.heap.size = w.heap.size + 2 := by rw [hw1]; simp
  have ⟨zA, cA, dA⟩ := A1
  simp only [demV] at hw1
  go_wp2_with fail
  rw [← hw1]
  have hmk := make_ints xs.length (by omega)
  have HW1 := Lib.hid hw1
  have HS1 := Lib.hid hs1
  have hs2 : ((w.alloc (.cells #[.int .i64 (xs.length : Int), demV bo bt bb] 88)).heap.size) = w.heap.size + 1 := by simp
  clear hw1 hs1 hs2
  go_cut [3] (fun s3 wx => RZ w1 wx xs.length s3)
  case first =>
    go_region
    all_goals
      go_wp2_with fail
      go_meet
      first
        | exact rz2 _ _ _ _ (by omega) (.inl ⟨rfl, rfl⟩) _
        | exact rz2 _ _ _ _ (by omega) (.inr ⟨rfl, rfl⟩) _
        | exact rz1 _ _ _ _ (by omega) (.inl ⟨rfl, rfl⟩) _
        | exact rz1 _ _ _ _ (by omega) (.inr ⟨rfl, rfl⟩) _
        | exact rz0 _ _ _ _ (by omega) (.inl ⟨rfl, rfl⟩) _
        | exact rz0 _ _ _ _ (by omega) (.inr ⟨rfl, rfl⟩) _
  case rest =>
    obtain ⟨g1, g2, p, rfl, hV, hP0, hR0, hne1, hne2, hne3, hpz, hbc⟩ := hcut
    have A2 := A1.below hbc
    have V2 := V1.below hbc
    have bwc := bw1.trans (hbc.mono bw1.size)
    have hgz : w1.heap.size ≤ g1 := (hP0.lt g1 rfl).1
    have hgz2 : w1.heap.size ≤ g2 := (hR0.lt g2 rfl).1
    have hs1 := HS1.out
    have hP1 := hP0.mono (B' := w.heap.size + 2) (by omega)
    have hR1 := hR0.mono (B' := w.heap.size + 2) (by omega)
    have k1 : w.heap.size + 2 ≤ g1 := by omega
    have k2 : w.heap.size + 2 ≤ g2 := by omega
    have k3 : w.heap.size + 2 ≤ p := by omega
    have hd2 : DemW wc bo bt bb a xs cap t := hd.below bwc
    clear hP0 hR0 hgz hgz2 hpz hbc A1 V1 bw1 hs1 HS1 HW1 zA cA dA hmk
    have hq1 : ¬ g2 = g1 := fun e => hne1 e.symm
    have hq2 : ¬ p = g1 := fun e => hne2 e.symm
    have hq3 : ¬ p = g2 := fun e => hne3 e.symm
    have ⟨zA, cA, dA⟩ := A2
    go_wp2_with fail
    clear zA cA dA
    go_loopw [18] (fun i wr => ∃ (r : Nat) (l : Int), r ≤ xs.length + 1 ∧ i = .int .i64 r ∧ OwnI wr (w.heap.size + 2) (.slice (some ⟨g1, 0, none⟩) xs.length xs.length) (rnds xs t r).P ∧ OwnI wr (w.heap.size + 2) (.slice (some ⟨g2, 0, none⟩) xs.length xs.length) (rnds xs t r).R ∧ Below w.heap.size w wr ∧ Box2 wr w.heap.size (.int .i64 (xs.length : Int)) (.func (.func 107) #[] #[.pointer (some ⟨bo, 0, none⟩), .pointer (some ⟨bt, 0, none⟩), .pointer (some ⟨bb, 0, none⟩)]) ∧ Var4 wr (w.heap.size + 1) (.slice none 0 0) (.slice none 0 0) (.int .i64 0) (.bool false) ∧ Var4 wr p (.slice (some ⟨g1, 0, none⟩) xs.length xs.length) (.slice (some ⟨g2, 0, none⟩) xs.length xs.length) (.int .i64 l) (.bool (decide (0 ≤ (rnds xs t r).L))) ∧ (0 ≤ (rnds xs t r).L → l = (rnds xs t r).L)) (fun i _ => xs.length + 1 - (intOf i).toNat)
    case atStart => exact ⟨0, 0, Nat.zero_le _, rfl, hP1, hR1, bwc, A2, V2, hV, fun h => by simp [rnds] at h⟩
    case round =>
      clear hP1 hR1 bwc A2 V2 hV hd2
      obtain ⟨r, l, hr, rfl, hP, hR, hb, hA, hZ, hV, hl⟩ := hrel
      have hdr := hd.below hb
      by_cases hend : r = xs.length + 1
      · subst hend
        have HFIN : Hid (rnds xs t (xs.length + 1) = fin xs t) := rfl
        have HO : Hid (decide (0 ≤ (fin xs t).L) = opn xs t) := rfl
        rw [HFIN.out] at hP hR hV hl
        rw [HO.out] at hV
        have HL : Hid (opn xs t = true → l = (fin xs t).L) := fun h => hl (by simpa [opn] using h)
        have ⟨zr, cr, dr⟩ := hA
        have ⟨⟨zV, cV0, cV1, cV2, cV3⟩, _⟩ := hV
        have ⟨⟨zZ, cZ0, cZ1, cZ2, cZ3⟩, fZ0, fZ1, fZ2, fZ3⟩ := hZ
        clear hl
        go_wp2_with fail
        have q := (((hZ.set0 (.slice (some ⟨g1, 0, none⟩) xs.length xs.length)).set1 (.slice (some ⟨g2, 0, none⟩) xs.length xs.length)).set2 (.int .i64 l)).set3 (.bool (opn xs t))
        refine bodyPost_ret (v := .agg #[.slice (some ⟨g1, 0, none⟩) xs.length xs.length, .slice (some ⟨g2, 0, none⟩) xs.length xs.length, .int .i64 l, .bool (opn xs t)]) (by have ⟨⟨_, q0, q1, q2, q3⟩, _⟩ := q; simp [results, Try.results79, go_sem, q0, q1, q2, q3]) rfl ?_
        refine ⟨g1, g2, l, rfl, HL.out, ?_, ?_, ?_⟩
        · exact ((((hP.setBelow (p := ⟨w.heap.size + 1, 0, none⟩) (show w.heap.size + 1 < w.heap.size + 2 by omega) _).setBelow (p := ⟨w.heap.size + 1, 1, none⟩) (show w.heap.size + 1 < w.heap.size + 2 by omega) _).setBelow (p := ⟨w.heap.size + 1, 2, none⟩) (show w.heap.size + 1 < w.heap.size + 2 by omega) _).setBelow (p := ⟨w.heap.size + 1, 3, none⟩) (show w.heap.size + 1 < w.heap.size + 2 by omega) _).mono (by omega)
        · exact ((((hR.setBelow (p := ⟨w.heap.size + 1, 0, none⟩) (show w.heap.size + 1 < w.heap.size + 2 by omega) _).setBelow (p := ⟨w.heap.size + 1, 1, none⟩) (show w.heap.size + 1 < w.heap.size + 2 by omega) _).setBelow (p := ⟨w.heap.size + 1, 2, none⟩) (show w.heap.size + 1 < w.heap.size + 2 by omega) _).setBelow (p := ⟨w.heap.size + 1, 3, none⟩) (show w.heap.size + 1 < w.heap.size + 2 by omega) _).mono (by omega)
        · exact (((hb.setCell (p := ⟨w.heap.size + 1, 0, none⟩) (show w.heap.size ≤ w.heap.size + 1 by omega) _).setCell (p := ⟨w.heap.size + 1, 1, none⟩) (show w.heap.size ≤ w.heap.size + 1 by omega) _).setCell (p := ⟨w.heap.size + 1, 2, none⟩) (show w.heap.size ≤ w.heap.size + 1 by omega) _).setCell (p := ⟨w.heap.size + 1, 3, none⟩) (show w.heap.size ≤ w.heap.size + 1 by omega) _
      have hlt : r ≤ xs.length := by omega
      clear hend hl
      obtain ⟨s0, hs0⟩ : ∃ s0 : Rnd, s0 = ⟨(rnds xs t r).P, (rnds xs t r).R, -1⟩ := ⟨_, rfl⟩
      have hbd0 := rnds_bd ht0 ht1 (xs := xs) r
      have hbs : Bd xs.length (r * (xs.length * xs.length)) s0 := by
        rw [hs0]; exact ⟨hbd0.lp, hbd0.lr, hbd0.p0, hbd0.r0, by show (-1 : Int) ≤ -1 ∧ (-1 : Int) < xs.length; omega⟩
      have hms : r * (xs.length * xs.length) ≤ 1100 := by
        have h1 : xs.length * xs.length ≤ 100 := Nat.mul_le_mul h10 h10
        exact Nat.le_trans (Nat.mul_le_mul (by omega : r ≤ 11) h1) (by omega)
      have HBD := Lib.hid (hbs.mono hms)
      have HNX : Hid (rnds xs t (r+1) = rndR xs t s0 xs.length) := by rw [hs0]; rfl
      have hPs : OwnI wr (w.heap.size + 2) (.slice (some ⟨g1, 0, none⟩) xs.length xs.length) s0.P := by rw [hs0]; exact hP
      have hRs : OwnI wr (w.heap.size + 2) (.slice (some ⟨g2, 0, none⟩) xs.length xs.length) s0.R := by rw [hs0]; exact hR
      have HL0 : Hid (s0.L = -1) := by rw [hs0]; rfl
      have ⟨zr, cr, dr⟩ := hA
      have ⟨⟨zV, cV0, cV1, cV2, cV3⟩, fV0, fV1, fV2, fV3⟩ := hV
      clear hs0 hbd0 hbs hms hP hR
      have r0 : (r : Int) < (xs.length : Int) + 1 := by omega
      have e0 : decide (0 ≤ s0.L) = false := by rw [HL0.out]; rfl
      have V0 : Var4 (wr.setCell ⟨p, 3, none⟩ (.bool false)) p (.slice (some ⟨g1, 0, none⟩) xs.length xs.length) (.slice (some ⟨g2, 0, none⟩) xs.length xs.length) (.int .i64 l) (.bool (decide (0 ≤ s0.L))) := by
        rw [e0]; exact hV.set3 (.bool false)
      have P0 : OwnI (wr.setCell ⟨p, 3, none⟩ (.bool false)) (w.heap.size + 2) (.slice (some ⟨g1, 0, none⟩) xs.length xs.length) s0.P := hPs.kept (grown_set wr ⟨p, 3, none⟩ (.bool false)) (.inr (by simp only [Value.ownBlock, ne_eq, Option.some.injEq]; exact hne2))
      have Rr0 : OwnI (wr.setCell ⟨p, 3, none⟩ (.bool false)) (w.heap.size + 2) (.slice (some ⟨g2, 0, none⟩) xs.length xs.length) s0.R := hRs.kept (grown_set wr ⟨p, 3, none⟩ (.bool false)) (.inr (by simp only [Value.ownBlock, ne_eq, Option.some.injEq]; exact hne3))
      have B0 : Below w.heap.size w (wr.setCell ⟨p, 3, none⟩ (.bool false)) := hb.setCell (p := ⟨p, 3, none⟩) (show w.heap.size ≤ p by omega) _
      have A0 := hA.set (p := ⟨p, 3, none⟩) (.bool false) (show w.heap.size ≠ p by omega)
      have Z0 := hZ.other (p := ⟨p, 3, none⟩) (.bool false) (show w.heap.size + 1 ≠ p by omega)
      have HV0 := Lib.hid V0
      have HP0 := Lib.hid P0
      have HR0 := Lib.hid Rr0
      clear e0 V0 P0 Rr0 hPs hRs hdr
      go_wp2_with fail
      clear cr dr cV0 cV1 cV2 cV3 fV0 fV1 fV2 fV3 zr zV
      go_loopw [23] (fun i wr => ∃ (j : Nat) (l : Int), j ≤ xs.length ∧ i = .int .i64 j ∧ OwnI wr (w.heap.size + 2) (.slice (some ⟨g1, 0, none⟩) xs.length xs.length) (rndR xs t s0 j).P ∧ OwnI wr (w.heap.size + 2) (.slice (some ⟨g2, 0, none⟩) xs.length xs.length) (rndR xs t s0 j).R ∧ Below w.heap.size w wr ∧ Box2 wr w.heap.size (.int .i64 (xs.length : Int)) (.func (.func 107) #[] #[.pointer (some ⟨bo, 0, none⟩), .pointer (some ⟨bt, 0, none⟩), .pointer (some ⟨bb, 0, none⟩)]) ∧ Var4 wr (w.heap.size + 1) (.slice none 0 0) (.slice none 0 0) (.int .i64 0) (.bool false) ∧ Var4 wr p (.slice (some ⟨g1, 0, none⟩) xs.length xs.length) (.slice (some ⟨g2, 0, none⟩) xs.length xs.length) (.int .i64 l) (.bool (decide (0 ≤ (rndR xs t s0 j).L))) ∧ (0 ≤ (rndR xs t s0 j).L → l = (rndR xs t s0 j).L)) (fun i _ => xs.length - (intOf i).toNat)
      case atStart => exact ⟨0, l, Nat.zero_le _, rfl, HP0.out, HR0.out, B0, A0, Z0, HV0.out, fun h => by rw [show (rndR xs t s0 0).L = s0.L from rfl, HL0.out] at h; omega⟩
      case round =>
        clear HP0 HR0 HV0 B0 A0 Z0 hb hA hZ hV
        obtain ⟨j, l, hj, rfl, hP, hR, hb, hA, hZ, hV, hl⟩ := hrel
        obtain ⟨s1, hs1⟩ : ∃ s1 : Rnd, s1 = rndR xs t s0 j := ⟨_, rfl⟩
        have hbs := HBD.out.rnd ht0 ht1 j hj
        rw [← hs1] at hP hR hbs hV hl
        have HS1 := Lib.hid hs1
        have hms : 1100 + j * xs.length ≤ 1200 := by
          have h1 : j * xs.length ≤ 100 := Nat.mul_le_mul (by omega : j ≤ 10) h10
          omega
        have HB1 := Lib.hid (hbs.mono hms)
        have HLL := Lib.hid hl
        have ⟨zr, cr, dr⟩ := hA
        clear hs1 hbs hms hl
        by_cases hjl : j < xs.length
        · have j0 : (0 : Int) ≤ (j : Int) := by omega
          have j1 : (j : Int) < (xs.length : Int) := by omega
          go_wp2_with fail
          clear cr dr zr
          go_loopw [28] (fun i wr => ∃ (m : Nat) (l : Int), m ≤ xs.length ∧ i = .int .i64 m ∧ OwnI wr (w.heap.size + 2) (.slice (some ⟨g1, 0, none⟩) xs.length xs.length) (rowR xs t s1 j m).P ∧ OwnI wr (w.heap.size + 2) (.slice (some ⟨g2, 0, none⟩) xs.length xs.length) (rowR xs t s1 j m).R ∧ Below w.heap.size w wr ∧ Box2 wr w.heap.size (.int .i64 (xs.length : Int)) (.func (.func 107) #[] #[.pointer (some ⟨bo, 0, none⟩), .pointer (some ⟨bt, 0, none⟩), .pointer (some ⟨bb, 0, none⟩)]) ∧ Var4 wr (w.heap.size + 1) (.slice none 0 0) (.slice none 0 0) (.int .i64 0) (.bool false) ∧ Var4 wr p (.slice (some ⟨g1, 0, none⟩) xs.length xs.length) (.slice (some ⟨g2, 0, none⟩) xs.length xs.length) (.int .i64 l) (.bool (decide (0 ≤ (rowR xs t s1 j m).L))) ∧ (0 ≤ (rowR xs t s1 j m).L → l = (rowR xs t s1 j m).L)) (fun i _ => xs.length - (intOf i).toNat)
          case atStart => exact ⟨0, l, Nat.zero_le _, rfl, hP, hR, hb, hA, hZ, hV, HLL.out⟩
          case round =>
            clear hP hR hb hA hZ hV HLL
            obtain ⟨m, l, hm, rfl, hP, hR, hb, hA, hZ, hV, hl⟩ := hrel
            obtain ⟨s, hs⟩ : ∃ s : Rnd, s = rowR xs t s1 j m := ⟨_, rfl⟩
            have hbs := HB1.out.row ht0 ht1 hjl m hm
            rw [← hs] at hP hR hbs hV hl
            have HS := Lib.hid hs
            have HLL := Lib.hid hl
            have ⟨zA, cA, dA⟩ := hA
            clear hs hl
            by_cases hml : m < xs.length
            · have m0 : (0 : Int) ≤ (m : Int) := by omega
              have m1 : (m : Int) < (xs.length : Int) := by omega
              have HNS : Hid (rowR xs t s1 j (m+1) = stepR xs t s j m) := by rw [HS.out]; rfl
              have ⟨pj0, pj1⟩ := hbs.p0 j hjl
              have ⟨pm0, pm1⟩ := hbs.p0 m hml
              have ⟨wv0, wv1⟩ := wtV_bd (xs := xs) (i := m) (j := j) ht0 ht1
              have HLP := Lib.hid hbs.lp
              have HLR := Lib.hid hbs.lr
              have hdr := hd.below hb
              clear hbs
              go_wp2_with fail
              refine (weight_any _ _ _ _ _ _ _ _ _ _ hdr hp ht0 ht1 hml hjl).mono ?_
              rintro e w4 ⟨rfl, hb4⟩
              have hP4 := hP.below hb4 (Nat.le_refl _)
              have hR4 := hR.below hb4 (Nat.le_refl _)
              have hA4 := hA.below hb4
              have hZ4 := hZ.below hb4
              have hV4 := hV.below hb4
              have bw4 := hb.trans (hb4.mono hb.size)
              have ⟨cj, fj⟩ := hP4.at' HLP.out.symm (i := j) (by rw [HLP.out]; exact hjl)
              have ⟨cm, fm⟩ := hP4.at' HLP.out.symm (i := m) (by rw [HLP.out]; exact hml)
              have ⟨⟨zV, cV0, cV1, cV2, cV3⟩, fV0, fV1, fV2, fV3⟩ := hV4
              clear hb4 hP hR hA hb cA dA zA hZ hV hdr
              cases ho : wtO xs t m j
              · have HE : Hid (stepR xs t s j m = s) := by rw [Hid, stepR, if_neg (by simp [ho])]
                go_wp2_with fail
                go_quiet (fail)
                go_wp2_with fail
                go_roundw
                case rel => exact ⟨m + 1, l, by omega, by go_num, by rw [HNS.out, HE.out]; exact hP4.below (Joins.below_draws _ _ _) (Nat.le_refl _), by rw [HNS.out, HE.out]; exact hR4.below (Joins.below_draws _ _ _) (Nat.le_refl _), bw4.trans (Joins.below_draws _ _ _), hA4.below (Joins.below_draws _ _ _), hZ4.below (Joins.below_draws _ _ _), by rw [HNS.out, HE.out]; exact hV4.below (Joins.below_draws _ _ _), by rw [HNS.out, HE.out]; exact HLL.out⟩
                case measure => simp [intOf]; omega
              · by_cases hlt2 : nth s.P j < nth s.P m + wtV xs t m j
                · have HE : Hid (stepR xs t s j m = ⟨s.P.set j (nth s.P m + wtV xs t m j), s.R.set j m, j⟩) := by rw [Hid, stepR, if_pos ⟨ho, hlt2⟩]
                  go_wp2_with fail
                  go_quiet (fail)
                  obtain ⟨w5, hw5⟩ : ∃ w5, w5 = w4.drewN nq := ⟨_, rfl⟩
                  have ht5 : Below w4.heap.size w4 w5 := by rw [hw5]; exact Joins.below_draws _ _ _
                  rw [← hw5]
                  have hP5 := hP4.below ht5 (Nat.le_refl _)
                  have hR5 := hR4.below ht5 (Nat.le_refl _)
                  have hA5 := hA4.below ht5
                  have hZ5 := hZ4.below ht5
                  have hV5 := hV4.below ht5
                  have bw5 := bw4.trans (ht5.mono bw4.size)
                  have ⟨cj5, fj5⟩ := hP5.at' HLP.out.symm (i := j) (by rw [HLP.out]; exact hjl)
                  have ⟨cm5, fm5⟩ := hP5.at' HLP.out.symm (i := m) (by rw [HLP.out]; exact hml)
                  have hput := hP5.put HLP.out.symm j (nth s.P m + wtV xs t m j)
                  have hP6 := hput.1.below (drew_below _) (Nat.le_refl _)
                  have hR6 := (hR5.kept hput.2 (.inr (by simp only [Value.ownBlock, ne_eq, Option.some.injEq]; exact hq1))).below (drew_below _) (Nat.le_refl _)
                  have hV6 := (hV5.kept hput.2 (by simp only [ne_eq, Option.some.injEq]; exact hq2)).below (drew_below _)
                  have hZ6 := (hZ5.kept hput.2 (by simp only [ne_eq, Option.some.injEq]; omega)).below (drew_below _)
                  have hA6 := (hA5.kept hput.2 (by simp only [ne_eq, Option.some.injEq]; omega)).below (drew_below _)
                  have bw6 := (bw5.setCell (p := ⟨g1, j, none⟩) (show w.heap.size ≤ g1 by omega) (.int .i64 (nth s.P m + wtV xs t m j))).drew
                  have ⟨⟨zV5, cV50, cV51, cV52, cV53⟩, _⟩ := hV5
                  have HP6 := Lib.hid hP6
                  have HR6 := Lib.hid hR6
                  have HV6 := Lib.hid hV6
                  have HZ6 := Lib.hid hZ6
                  have HA6 := Lib.hid hA6
                  have HB6 := Lib.hid bw6
                  clear hput hP6 hR6 hV6 hZ6 hA6 bw6 hP5 hR5 hA5 hZ5 hV5 bw5 hP4 hR4 hA4 hZ4 hV4 bw4 cj fj cm fm hw5 ht5 cV0 cV1 cV2 cV3 fV0 fV1 fV2 fV3 zV
                  go_wp2_with fail
                  go_region
                  all_goals
                    have hP6 := HP6.out
                    have hR6 := HR6.out
                    have hV6 := HV6.out
                    have hZ6 := HZ6.out
                    have hA6 := HA6.out
                    have bw6 := HB6.out
                    obtain ⟨w6, hw6⟩ : ∃ w6, w6 = (w5.setCell ⟨g1, j, none⟩ (.int .i64 (nth s.P m + wtV xs t m j))).drew := ⟨_, rfl⟩
                    rw [← hw6] at hP6 hR6 hV6 hZ6 hA6 bw6 ⊢
                    have ⟨cr6, fr6⟩ := hR6.at' HLR.out.symm (i := j) (by rw [HLR.out]; exact hjl)
                    have ⟨⟨zV, cV0, cV1, cV2, cV3⟩, fV0, fV1, fV2, fV3⟩ := hV6
                    have hput2 := hR6.put HLR.out.symm j (m : Int)
                    have hP7 := ((hP6.kept hput2.2 (.inr (by simp only [Value.ownBlock, ne_eq, Option.some.injEq]; exact hne1))).kept (grown_set _ ⟨p, 2, none⟩ (.int .i64 (j : Int))) (.inr (by simp only [Value.ownBlock, ne_eq, Option.some.injEq]; exact hne2))).kept (grown_set _ ⟨p, 3, none⟩ (.bool true)) (.inr (by simp only [Value.ownBlock, ne_eq, Option.some.injEq]; exact hne2))
                    have hR7 := (hput2.1.kept (grown_set _ ⟨p, 2, none⟩ (.int .i64 (j : Int))) (.inr (by simp only [Value.ownBlock, ne_eq, Option.some.injEq]; exact hne3))).kept (grown_set _ ⟨p, 3, none⟩ (.bool true)) (.inr (by simp only [Value.ownBlock, ne_eq, Option.some.injEq]; exact hne3))
                    have hV7 := ((hV6.kept hput2.2 (by simp only [ne_eq, Option.some.injEq]; exact hq3)).set2 (.int .i64 (j : Int))).set3 (.bool true)
                    have hZ7 := ((hZ6.other (p := ⟨g2, j, none⟩) (.int .i64 (m : Int)) (show w.heap.size + 1 ≠ g2 by omega)).other (p := ⟨p, 2, none⟩) (.int .i64 (j : Int)) (show w.heap.size + 1 ≠ p by omega)).other (p := ⟨p, 3, none⟩) (.bool true) (show w.heap.size + 1 ≠ p by omega)
                    have hA7 := ((hA6.set (p := ⟨g2, j, none⟩) (.int .i64 (m : Int)) (show w.heap.size ≠ g2 by omega)).set (p := ⟨p, 2, none⟩) (.int .i64 (j : Int)) (show w.heap.size ≠ p by omega)).set (p := ⟨p, 3, none⟩) (.bool true) (show w.heap.size ≠ p by omega)
                    have bw7 := ((bw6.setCell (p := ⟨g2, j, none⟩) (show w.heap.size ≤ g2 by omega) (.int .i64 (m : Int))).setCell (p := ⟨p, 2, none⟩) (show w.heap.size ≤ p by omega) (.int .i64 (j : Int))).setCell (p := ⟨p, 3, none⟩) (show w.heap.size ≤ p by omega) (.bool true)
                    have HP7 := Lib.hid hP7
                    have HR7 := Lib.hid hR7
                    have HV7 := Lib.hid hV7
                    have HZ7 := Lib.hid hZ7
                    have HA7 := Lib.hid hA7
                    clear hput2 hP7 hR7 hV7 hZ7 hA7 hP6 hR6 hV6 hZ6 hA6 bw6 hw6 HP6 HR6 HV6 HZ6 HA6 HB6 cV50 cV51 cV52 cV53 zV5 cj5 fj5 cm5 fm5
                    go_wp2_with fail
                    go_roundw
                    case rel => exact ⟨m + 1, j, by omega, by go_num, by rw [HNS.out, HE.out]; exact HP7.out, by rw [HNS.out, HE.out]; exact HR7.out, bw7, HA7.out, HZ7.out, by rw [HNS.out, HE.out, show decide (0 ≤ (⟨s.P.set j (nth s.P m + wtV xs t m j), s.R.set j m, j⟩ : Rnd).L) = true from by simp]; exact HV7.out, by rw [HNS.out, HE.out]; exact fun _ => rfl⟩
                    case measure => simp [intOf]; omega
                · have HE : Hid (stepR xs t s j m = s) := by rw [Hid, stepR, if_neg (fun h => hlt2 h.2)]
                  go_wp2_with fail
                  go_quiet (fail)
                  go_wp2_with fail
                  go_roundw
                  case rel => exact ⟨m + 1, l, by omega, by go_num, by rw [HNS.out, HE.out]; exact hP4.below (Joins.below_draws _ _ _) (Nat.le_refl _), by rw [HNS.out, HE.out]; exact hR4.below (Joins.below_draws _ _ _) (Nat.le_refl _), bw4.trans (Joins.below_draws _ _ _), hA4.below (Joins.below_draws _ _ _), hZ4.below (Joins.below_draws _ _ _), by rw [HNS.out, HE.out]; exact hV4.below (Joins.below_draws _ _ _), by rw [HNS.out, HE.out]; exact HLL.out⟩
                  case measure => simp [intOf]; omega
            · obtain rfl : m = xs.length := by omega
              have HNS : Hid (rndR xs t s0 (j+1) = s) := by rw [HS.out, HS1.out]; rfl
              go_wp2_with fail
              go_roundw
              case rel => exact ⟨j + 1, l, by omega, by go_num, by rw [HNS.out]; exact hP, by rw [HNS.out]; exact hR, hb, hA, hZ, by rw [HNS.out]; exact hV, by rw [HNS.out]; exact HLL.out⟩
              case measure => simp [intOf]; omega
        · obtain rfl : j = xs.length := by omega
          have HF1 : Hid (rnds xs t (r+1) = s1) := by rw [Hid, HNX.out, HS1.out]
          go_wp2_with fail
          go_roundw
          case rel => exact ⟨r + 1, l, by omega, by go_num, by rw [HF1.out]; exact hP, by rw [HF1.out]; exact hR, hb, hA, hZ, by rw [HF1.out]; exact hV, by rw [HF1.out]; exact HLL.out⟩
          case measure => simp [intOf]; omega

/-- the set of all elements above one of those of a set that are less than k -/
def aboveTo (xs : List Int) (s : Int) : Nat → Nat
  | 0 => 0
  | k+1 => if hasB s k then aboveTo xs s k ||| (nth xs k).toNat else aboveTo xs s k
theorem aboveTo_lt {n : Int} {xs : List Int} (hp : RelP n xs) (s : Int) : ∀ k, k ≤ xs.length → aboveTo xs s k < 2 ^ 10
  | 0, _ => by simp [aboveTo]
  | k+1, hk => by
    have h := aboveTo_lt hp s k (by omega)
    have h1 := hp.small k (by omega)
    have h0 := hp.pos k (by omega)
    simp only [aboveTo]
    split
    · exact or_lt h (by omega)
    · exact h
theorem aboveTo_bit (xs : List Int) (s : Int) (j : Nat) : ∀ k, (aboveTo xs s k).testBit j = true ↔ ∃ i, i < k ∧ hasB s i = true ∧ (nth xs i).toNat.testBit j = true
  | 0 => by simp [aboveTo]
  | k+1 => by
    have ih := aboveTo_bit xs s j k
    simp only [aboveTo]
    cases hb : hasB s k
    · rw [if_neg (by simp), ih]
      constructor
      · rintro ⟨i, h1, h2, h3⟩
        exact ⟨i, by omega, h2, h3⟩
      · rintro ⟨i, h1, h2, h3⟩
        have : i ≠ k := fun e => by rw [e, hb] at h2; cases h2
        exact ⟨i, by omega, h2, h3⟩
    · rw [if_pos rfl, Nat.testBit_or, Bool.or_eq_true, ih]
      constructor
      · rintro (⟨i, h1, h2, h3⟩ | h)
        · exact ⟨i, by omega, h2, h3⟩
        · exact ⟨k, by omega, hb, h⟩
      · rintro ⟨i, h1, h2, h3⟩
        by_cases e : i = k
        · subst e; exact .inr h3
        · exact .inl ⟨i, by omega, h2, h3⟩
theorem okAtB_above {xs : List Int} {k : Nat} (h : hasB (nth xs k) k = false) : okAtB xs k = (sub (aboveTo xs (nth xs k) xs.length) (nth xs k).toNat == 0) := by
  rw [Bool.eq_iff_iff, okAtB_iff, beq_iff_eq, sub_zero]
  constructor
  · rintro ⟨_, h2⟩ i hi
    obtain ⟨j, hj, hb, ht⟩ := (aboveTo_bit _ _ _ _).1 hi
    exact sub_zero.1 (h2 j hj hb) i ht
  · intro h2
    refine ⟨h, fun j hj hb => sub_zero.2 (fun i hi => h2 i ((aboveTo_bit _ _ _ _).2 ⟨j, hj, hb, hi⟩))⟩

theorem aboveAny_any (n : Int) (a : Option Addr) (xs : List Int) (cap : Nat) (s : Int) (w : World) (hx : Rd w a xs) (hr : RelP n xs) (h0 : 0 ≤ s) (h1 : s ≤ 9223372036854775807) :
    Calls Try.prog 93 #[.agg #[.int .i64 n, .slice a xs.length cap], .int .i64 s] w fun e w' => e = .returned (.int .i64 (aboveTo xs s xs.length)) ∧ Below w.heap.size w w' := by
  have hx1 := hx.alloc (.cells #[.int .i64 n, .slice a xs.length cap] 32)
  obtain rfl : n = (xs.length : Int) := hr.len.symm
  have hn : xs.length ≤ 10 := by have := hr.n1; omega
  go_enter Try.func93, Try.ntmps93
  go_wp2_with fail
  go_loop [5, 9] (fun s' i' => ∃ k : Nat, k ≤ xs.length ∧ i' = .int .i64 k ∧ s' = .int .i64 (aboveTo xs s k)) (fun _ i => xs.length - (intOf i).toNat)
  case atStart => exact ⟨0, Nat.zero_le _, rfl, rfl⟩
  case round =>
    obtain ⟨k, hk, rfl, rfl⟩ := hrel
    by_cases hlt : k < xs.length
    · obtain ⟨b, off, rfl, hbl, hc⟩ := hx1.cell k hlt
      obtain ⟨b', off', e', hbl', hc'⟩ := hx.cell k hlt
      simp only [Option.some.injEq, Addr.mk.injEq, and_true] at e'
      obtain ⟨rfl, rfl⟩ := e'
      have hpk := hr.pos k hlt
      have hsk := hr.small k hlt
      have hab := aboveTo_lt hr s k hk
      have hor := Lib.hid (or_i (a := (aboveTo xs s k : Nat)) (b := nth xs k) (by omega) (by omega) hpk (by omega))
      clear hab
      cases hin : hasB s k
      · go_wp2_with (go_at_call 92; refine (hasElement_any _ _ _ h0 h1 (by omega)).mono ?_; rintro e w' ⟨rfl, rfl⟩)
        go_round
        case rel => exact ⟨k + 1, by omega, by go_num, by simp [aboveTo, hin]⟩
        case measure => simp [intOf]; omega
      · go_wp2_with (go_at_call 92; refine (hasElement_any _ _ _ h0 h1 (by omega)).mono ?_; rintro e w' ⟨rfl, rfl⟩)
        go_round
        case rel => exact ⟨k + 1, by omega, by go_num, val_int (by rw [hor.out]; simp [aboveTo, hin])⟩
        case measure => simp [intOf]; omega
    · obtain rfl : k = xs.length := by omega
      go_wp2_with fail
      go_ret
      exact ⟨rfl, (by repeat (first | exact Below.refl _ _ | assumption | refine Below.alloc ?_ (by first | exact Nat.le_refl _ | (simp only [World.size_alloc, World.size_setCell, World.size_drew]; omega) | omega) _ | refine Below.setCell ?_ (by first | exact Nat.le_refl _ | (simp only [World.size_alloc, World.size_setCell, World.size_drew]; omega) | omega) _ | refine Below.drew ?_))⟩

theorem fullSet_any (n : Int) (w : World) (h0 : 0 ≤ n) (h1 : n ≤ 10) :
    Calls Try.prog 130 #[.int .i64 n] w fun e w' => e = .returned (.int .i64 (2 ^ n.toNat - 1)) ∧ w = w' := by
  have hf := Lib.hid (full_eq h0 h1)
  go_enter Try.func130, Try.ntmps130
  go_wp2
  go_ret
  exact ⟨ret_int hf.out, rfl⟩

theorem isSet_any (s n : Int) (w : World) (h0' : 0 ≤ n) (h1' : n ≤ 10) :
    Calls Try.prog 125 #[.int .i64 s, .int .i64 n] w fun e w' => e = .returned (.bool (inB s 0 (2 ^ n.toNat - 1))) ∧ w = w' := by
  by_cases h0 : 0 ≤ s
  · by_cases h1 : s ≤ 2 ^ n.toNat - 1
    · have hf := Lib.hid (inB_iff.2 ⟨h0, h1⟩)
      go_enter Try.func125, Try.ntmps125
      go_wp2_with (go_at_call 130; refine (fullSet_any _ _ h0' h1').mono ?_; rintro e w' ⟨rfl, rfl⟩)
      go_ret
      exact ⟨ret_bool (by rw [hf.out]; try simp [h1]), rfl⟩
    · have hf := Lib.hid (inB_no (lo := 0).2 (.inr (show 2 ^ n.toNat - 1 < s by omega)))
      go_enter Try.func125, Try.ntmps125
      go_wp2_with (go_at_call 130; refine (fullSet_any _ _ h0' h1').mono ?_; rintro e w' ⟨rfl, rfl⟩)
      go_ret
      exact ⟨ret_bool (by rw [hf.out]; try simp [h1]), rfl⟩
  · have hf := Lib.hid (inB_no (hi := 2 ^ n.toNat - 1).2 (.inl (show s < 0 by omega)))
    go_enter Try.func125, Try.ntmps125
    go_wp2_with fail
    go_ret
    exact ⟨ret_bool (by rw [hf.out]; try simp [h1]), rfl⟩

theorem areSets_any (a : Option Addr) (xs : List Int) (cap : Nat) (n : Int) (w : World) (hx : Rd w a xs) (h0' : 0 ≤ n) (h1' : n ≤ 10) :
    Calls Try.prog 115 #[.slice a xs.length cap, .int .i64 n] w fun e w' => e = .returned (.bool (allB xs 0 (2 ^ n.toNat - 1))) ∧ w = w' := by
  have hlen := hx.len
  go_enter Try.func115, Try.ntmps115
  go_wp2_with fail
  go_loop [9] (fun i => ∃ k : Nat, k ≤ xs.length ∧ i = .int .i64 k ∧ allB (xs.take k) 0 (2 ^ n.toNat - 1) = true) (fun i => xs.length - (intOf i).toNat)
  case atStart => exact ⟨0, Nat.zero_le _, rfl, rfl⟩
  case round =>
    obtain ⟨k, hk, rfl, hall⟩ := hrel
    by_cases hlt : k < xs.length
    · obtain ⟨b, off, rfl, hbl, hc⟩ := hx.cell k hlt
      cases hin : inB (nth xs k) 0 (2 ^ n.toNat - 1)
      · have hf := Lib.hid (allB_false hlt hin)
        go_wp2_with (go_at_call 125; refine (isSet_any _ _ _ h0' h1').mono ?_; rintro e w' ⟨rfl, rfl⟩)
        go_ret
        exact ⟨ret_bool hf.out.symm, rfl⟩
      · go_wp2_with (go_at_call 125; refine (isSet_any _ _ _ h0' h1').mono ?_; rintro e w' ⟨rfl, rfl⟩)
        go_round
        case rel => exact ⟨k + 1, by omega, by go_num, by rw [allB_take _ _ _ _ hlt, hall, hin]; rfl⟩
        case measure => simp [intOf]; omega
    · go_wp2_with fail
      go_ret
      exact ⟨ret_bool (by rw [← hall, List.take_of_length_le (by omega)]), rfl⟩

theorem iIsRelation_any (n : Int) (a : Option Addr) (xs : List Int) (cap : Nat) (w : World) (_hn : -9223372036854775808 ≤ n ∧ n ≤ 9223372036854775807) (hx : Rd w a xs) :
    Calls Try.prog 91 #[.agg #[.int .i64 n, .slice a xs.length cap]] w fun e w' => e = .returned (.bool (relB n xs)) ∧ Below w.heap.size w w' := by
  have hx1 := hx.alloc (.cells #[.int .i64 n, .slice a xs.length cap] 32)
  have hlen := hx.len
  by_cases h0 : 0 ≤ n
  · by_cases h1 : n ≤ 10
    · cases h2 : ((xs.length : Int) == n)
      · have HR : Hid (relB n xs = false) := by
          have : ¬ (xs.length : Int) = n := by simpa using h2
          simp [Hid, relB, this]
        go_enter Try.func91, Try.ntmps91
        go_wp2_with fail
        go_ret
        exact ⟨ret_bool HR.out.symm, (by repeat (first | exact Below.refl _ _ | assumption | refine Below.alloc ?_ (by first | exact Nat.le_refl _ | (simp only [World.size_alloc, World.size_setCell, World.size_drew]; omega) | omega) _ | refine Below.setCell ?_ (by first | exact Nat.le_refl _ | (simp only [World.size_alloc, World.size_setCell, World.size_drew]; omega) | omega) _ | refine Below.drew ?_))⟩
      · have HR : Hid (relB n xs = allB xs 0 (2 ^ n.toNat - 1)) := by
          have : (xs.length : Int) = n := by simpa using h2
          simp [Hid, relB, inB, h0, h1, this]
        go_enter Try.func91, Try.ntmps91
        go_wp2_with fail
        refine (areSets_any _ _ _ _ _ hx1 h0 h1).mono ?_
        rintro e w' ⟨rfl, rfl⟩
        go_wp2_with fail
        go_ret
        exact ⟨ret_bool HR.out.symm, (by repeat (first | exact Below.refl _ _ | assumption | refine Below.alloc ?_ (by first | exact Nat.le_refl _ | (simp only [World.size_alloc, World.size_setCell, World.size_drew]; omega) | omega) _ | refine Below.setCell ?_ (by first | exact Nat.le_refl _ | (simp only [World.size_alloc, World.size_setCell, World.size_drew]; omega) | omega) _ | refine Below.drew ?_))⟩
    · have HR : Hid (relB n xs = false) := by simp [Hid, relB, inB]; omega
      go_enter Try.func91, Try.ntmps91
      go_wp2_with fail
      go_ret
      exact ⟨ret_bool HR.out.symm, (by repeat (first | exact Below.refl _ _ | assumption | refine Below.alloc ?_ (by first | exact Nat.le_refl _ | (simp only [World.size_alloc, World.size_setCell, World.size_drew]; omega) | omega) _ | refine Below.setCell ?_ (by first | exact Nat.le_refl _ | (simp only [World.size_alloc, World.size_setCell, World.size_drew]; omega) | omega) _ | refine Below.drew ?_))⟩
  · have HR : Hid (relB n xs = false) := by simp [Hid, relB, inB]; omega
    go_enter Try.func91, Try.ntmps91
    go_wp2_with fail
    go_ret
    exact ⟨ret_bool HR.out.symm, (by repeat (first | exact Below.refl _ _ | assumption | refine Below.alloc ?_ (by first | exact Nat.le_refl _ | (simp only [World.size_alloc, World.size_setCell, World.size_drew]; omega) | omega) _ | refine Below.setCell ?_ (by first | exact Nat.le_refl _ | (simp only [World.size_alloc, World.size_setCell, World.size_drew]; omega) | omega) _ | refine Below.drew ?_))⟩

theorem iIsOrder_any (n : Int) (a : Option Addr) (xs : List Int) (cap : Nat) (w : World) (hn : -9223372036854775808 ≤ n ∧ n ≤ 9223372036854775807) (hx : Rd w a xs) :
    Calls Try.prog 57 #[.agg #[.int .i64 n, .slice a xs.length cap]] w fun e w' => e = .returned (.bool (ordB n xs)) ∧ Below w.heap.size w w' := by
  have hx1 := hx.alloc (.cells #[.int .i64 n, .slice a xs.length cap] 32)
  have hlen := hx.len
  cases hr : relB n xs
  · have HR : Hid (ordB n xs = false) := by simp [Hid, ordB, hr]
    go_enter Try.func57, Try.ntmps57
    go_wp2_with fail
    refine (iIsRelation_any _ _ _ _ _ hn hx1).mono ?_
    rintro e w1 ⟨rfl, hb1⟩
    go_wp2_with fail
    go_ret
    exact ⟨ret_bool HR.out.symm, Below.trans (by repeat (first | exact Below.refl _ _ | assumption | refine Below.alloc ?_ (by first | exact Nat.le_refl _ | (simp only [World.size_alloc, World.size_setCell, World.size_drew]; omega) | omega) _ | refine Below.setCell ?_ (by first | exact Nat.le_refl _ | (simp only [World.size_alloc, World.size_setCell, World.size_drew]; omega) | omega) _ | refine Below.drew ?_)) (hb1.mono (by first | (simp only [World.size_alloc, World.size_setCell, World.size_drew]; omega) | omega))⟩
  · have hp := relB_p hr
    go_enter Try.func57, Try.ntmps57
    go_wp2_with fail
    refine (iIsRelation_any _ _ _ _ _ hn hx1).mono ?_
    rintro e w1 ⟨rfl, hb1⟩
    have B1 := (Box2.new w _ _ _).below hb1
    have ⟨z1, c1, d1⟩ := B1
    have bw1 : Below w.heap.size w w1 := Below.trans (by repeat (first | exact Below.refl _ _ | assumption | refine Below.alloc ?_ (by first | exact Nat.le_refl _ | (simp only [World.size_alloc, World.size_setCell, World.size_drew]; omega) | omega) _ | refine Below.setCell ?_ (by first | exact Nat.le_refl _ | (simp only [World.size_alloc, World.size_setCell, World.size_drew]; omega) | omega) _ | refine Below.drew ?_)) (hb1.mono (by first | (simp only [World.size_alloc, World.size_setCell, World.size_drew]; omega) | omega))
    have HR := Lib.hid hr
    clear hb1
    go_wp2_with fail
    clear hr
    go_loopw [11] (fun i wr => ∃ k : Nat, k ≤ xs.length ∧ i = .int .i64 k ∧ (∀ j, j < k → okAtB xs j = true) ∧ Below w1.heap.size w1 wr) (fun i _ => xs.length - (intOf i).toNat)
    case atStart => exact ⟨0, Nat.zero_le _, rfl, fun j hj => by omega, Below.refl _ _⟩
    case round =>
      obtain ⟨k, hk, rfl, hall, hb⟩ := hrel
      have ⟨zr, cr, dr⟩ := B1.below hb
      have bwr := bw1.trans (hb.mono bw1.size)
      have HA := Lib.hid hall
      clear hall c1 d1
      by_cases hlt : k < xs.length
      · obtain ⟨b, off, rfl, hbl, hc⟩ := (hx.below bwr).cell k hlt
        have hpk := hp.pos k hlt
        have hsk := hp.small k hlt
        have hsk' : nth xs k ≤ 9223372036854775807 := by omega
        cases hin : hasB (nth xs k) k
        · have hab := aboveTo_lt hp (nth xs k) xs.length (Nat.le_refl _)
          have hsub := sub_i (a := (aboveTo xs (nth xs k) xs.length : Nat)) (b := nth xs k) (by omega) (by omega) hpk (by omega)
          have hok := okAtB_above hin
          rw [Int.toNat_natCast] at hsub
          cases hok2 : okAtB xs k
          · rw [hok2] at hok
            have hne : (bits BinOp.andNot IntKind.i64 ((aboveTo xs (nth xs k) xs.length : Nat) : Int) (nth xs k) != 0) = true := by
              rw [hsub]
              simpa using hok.symm
            have HN := Lib.hid (ordB_no (n := n) hlt hok2)
            clear hok2 hok hsub hab
            go_wp2_with fail
            refine (hasElement_any _ _ _ hpk hsk' (by omega)).mono ?_
            rintro e w' ⟨rfl, rfl⟩
            go_wp2_with fail
            refine (aboveAny_any _ _ _ _ _ _ (hx.below bwr) hp hpk hsk').mono ?_
            rintro e w2 ⟨rfl, hb2⟩
            go_wp2_with fail
            go_ret
            exact ⟨ret_bool HN.out.symm, bwr.trans (hb2.mono bwr.size)⟩
          · rw [hok2] at hok
            have hne : (bits BinOp.andNot IntKind.i64 ((aboveTo xs (nth xs k) xs.length : Nat) : Int) (nth xs k) != 0) = false := by
              rw [hsub]
              simpa using hok.symm
            have HN := Lib.hid hok2
            clear hok2 hok hsub hab
            go_wp2_with fail
            refine (hasElement_any _ _ _ hpk hsk' (by omega)).mono ?_
            rintro e w' ⟨rfl, rfl⟩
            go_wp2_with fail
            refine (aboveAny_any _ _ _ _ _ _ (hx.below bwr) hp hpk hsk').mono ?_
            rintro e w2 ⟨rfl, hb2⟩
            go_wp2_with fail
            go_roundw
            case rel =>
              refine ⟨k + 1, by omega, by go_num, fun j hj => ?_, hb.trans (hb2.mono hb.size)⟩
              by_cases e : j = k
              · rw [e]; exact HN.out
              · exact HA.out j (by omega)
            case measure => simp [intOf]; omega
        · have HN := Lib.hid (ordB_no (n := n) hlt (okAtB_has hin))
          go_wp2_with fail
          refine (hasElement_any _ _ _ hpk hsk' (by omega)).mono ?_
          rintro e w' ⟨rfl, rfl⟩
          go_wp2_with fail
          go_ret
          exact ⟨ret_bool HN.out.symm, bwr⟩
      · obtain rfl : k = xs.length := by omega
        go_wp2_with fail
        go_ret
        exact ⟨ret_bool (ordB_iff.2 ⟨HR.out, HA.out⟩).symm, bwr⟩

theorem isThreshold_any (t : Int) (w : World) :
    Calls Try.prog 75 #[.int .i64 t] w fun e w' => e = .returned (.bool (thB t)) ∧ w = w' := by
  by_cases h : 1 ≤ t
  · have H : Hid (thB t = decide (t ≤ 10)) := by simp [Hid, thB, inB, h]
    go_enter Try.func75, Try.ntmps75
    go_wp2
    go_ret
    exact ⟨ret_bool (by rw [H.out]; try simp; try omega), rfl⟩
  · have H : Hid (thB t = false) := by simp [Hid, thB, inB, h]
    go_enter Try.func75, Try.ntmps75
    go_wp2
    go_ret
    exact ⟨ret_bool H.out.symm, rfl⟩

theorem lp_len {n : Int} {xs : List Int} {t : Int} (ht0 : 1 ≤ t) (ht1 : t ≤ 10) : (fin xs t).P.length = xs.length := (rnds_bd ht0 ht1 (xs := xs) (xs.length + 1)).lp
theorem iLeastPl_any (n : Int) (a : Option Addr) (xs : List Int) (cap : Nat) (t : Int) (w : World) (hn : -9223372036854775808 ≤ n ∧ n ≤ 9223372036854775807) (hx : Rd w a xs) (ht : -9223372036854775808 ≤ t ∧ t ≤ 9223372036854775807) :
    Calls Try.prog 42 #[.agg #[.int .i64 n, .slice a xs.length cap], .int .i64 t] w fun e w' => ∃ a' cap', e = .returned (.tuple #[.slice a' (lpL n xs t).length cap', .bool (lpB n xs t)]) ∧ OwnI w' w.heap.size (.slice a' (lpL n xs t).length cap') (lpL n xs t) ∧ Below w.heap.size w w' := by
  have hx1 := hx.alloc (.cells #[.int .i64 n, .slice a xs.length cap] 32)
  cases hr : ordB n xs
  · have H0 : Hid (lpB n xs t = false) := by simp [Hid, lpB, lpOk, hr]
    have H1 : Hid (lpL n xs t = []) := by rw [Hid, lpL, if_neg (by rw [H0.out]; simp)]
    go_enter Try.func42, Try.ntmps42
    go_wp2_with fail
    refine (iIsOrder_any _ _ _ _ _ hn hx1).mono ?_
    rw [hr]
    rintro e w1 ⟨rfl, hb1⟩
    have bw1 : Below w.heap.size w w1 := Below.trans (by repeat (first | exact Below.refl _ _ | assumption | refine Below.alloc ?_ (by first | exact Nat.le_refl _ | (simp only [World.size_alloc, World.size_setCell, World.size_drew]; omega) | omega) _ | refine Below.setCell ?_ (by first | exact Nat.le_refl _ | (simp only [World.size_alloc, World.size_setCell, World.size_drew]; omega) | omega) _ | refine Below.drew ?_)) (hb1.mono (by first | (simp only [World.size_alloc, World.size_setCell, World.size_drew]; omega) | omega))
    go_wp2_with fail
    refine bodyPost_ret (v := .tuple #[.slice none 0 0, .bool false]) (by simp [results, Try.results42, go_sem]) rfl ?_
    exact ⟨none, 0, by rw [H0.out, H1.out]; rfl, by rw [H1.out]; exact OwnI.nil _ _, bw1⟩
  · have hp := ord_rel hr
    cases hT : thB t
    · have H0 : Hid (lpB n xs t = false) := by
        have : inB t 1 10 = false := hT
        simp [Hid, lpB, lpOk, this]
      have H1 : Hid (lpL n xs t = []) := by rw [Hid, lpL, if_neg (by rw [H0.out]; simp)]
      have HT := Lib.hid hT
      have HR := Lib.hid hr
      clear hT hr
      go_enter Try.func42, Try.ntmps42
      go_wp2_with fail
      refine (iIsOrder_any _ _ _ _ _ hn hx1).mono ?_
      rw [HR.out]
      rintro e w1 ⟨rfl, hb1⟩
      have bw1 : Below w.heap.size w w1 := Below.trans (by repeat (first | exact Below.refl _ _ | assumption | refine Below.alloc ?_ (by first | exact Nat.le_refl _ | (simp only [World.size_alloc, World.size_setCell, World.size_drew]; omega) | omega) _ | refine Below.setCell ?_ (by first | exact Nat.le_refl _ | (simp only [World.size_alloc, World.size_setCell, World.size_drew]; omega) | omega) _ | refine Below.drew ?_)) (hb1.mono (by first | (simp only [World.size_alloc, World.size_setCell, World.size_drew]; omega) | omega))
      go_wp2_with fail
      refine (isThreshold_any _ _).mono ?_
      rw [HT.out]
      rintro e w' ⟨rfl, rfl⟩
      go_wp2_with fail
      refine bodyPost_ret (v := .tuple #[.slice none 0 0, .bool false]) (by simp [results, Try.results42, go_sem]) rfl ?_
      exact ⟨none, 0, by rw [H0.out, H1.out]; rfl, by rw [H1.out]; exact OwnI.nil _ _, bw1⟩
    · have ⟨t0, t1⟩ := inB_iff.1 (show inB t 1 10 = true from hT)
      obtain rfl : n = (xs.length : Int) := hp.len.symm
      have HLB : Hid (lpB (xs.length : Int) xs t = !opn xs t) := by
        have : inB t 1 10 = true := hT
        simp [Hid, lpB, lpOk, this, hr]
      have HT := Lib.hid hT
      have HR := Lib.hid hr
      have HLN := Lib.hid (lp_len (n := 0) (xs := xs) t0 t1)
      clear hT hr
      go_enter Try.func42, Try.ntmps42
      go_wp2_with fail
      refine (iIsOrder_any _ _ _ _ _ hn hx1).mono ?_
      rw [HR.out]
      rintro e w1 ⟨rfl, hb1⟩
      have A1 : Box2 w1 w.heap.size (.int .i64 (xs.length : Int)) (.slice a xs.length cap) := (Box2.new w _ _ _).below hb1
      have bw1 : Below w.heap.size w w1 := Below.trans (by repeat (first | exact Below.refl _ _ | assumption | refine Below.alloc ?_ (by first | exact Nat.le_refl _ | (simp only [World.size_alloc, World.size_setCell, World.size_drew]; omega) | omega) _ | refine Below.setCell ?_ (by first | exact Nat.le_refl _ | (simp only [World.size_alloc, World.size_setCell, World.size_drew]; omega) | omega) _ | refine Below.drew ?_)) (hb1.mono (by first | (simp only [World.size_alloc, World.size_setCell, World.size_drew]; omega) | omega))
      have ⟨zA, cA, dA⟩ := A1
      clear hb1
      go_wp2_with fail
      refine (isThreshold_any _ _).mono ?_
      rw [HT.out]
      rintro e w' ⟨rfl, rfl⟩
      go_wp2_with fail
      refine (demandsOf_any _ _ _ _ _ (hx.below bw1) hp).mono ?_
      rintro e w2 ⟨bo, bt, bb, rfl, hd, hb2⟩
      have bw2 := bw1.trans (hb2.mono bw1.size)
      clear hb2 zA cA dA A1
      go_wp2_with fail
      refine (raise_any _ _ _ _ _ _ _ _ hd hp t0 t1).mono ?_
      rintro e w3 ⟨g1, g2, l, rfl, hl, hP, hR, hb3⟩
      have bw3 := bw2.trans (hb3.mono bw2.size)
      clear hR hl hb3
      cases ho : opn xs t
      · have H0 : Hid (lpB (xs.length : Int) xs t = true) := by rw [Hid, HLB.out, ho]; rfl
        have H1 : Hid (lpL (xs.length : Int) xs t = (fin xs t).P) := by rw [Hid, lpL, if_pos H0.out]
        clear ho
        go_wp2_with fail
        refine bodyPost_ret (v := .tuple #[.slice (some ⟨g1, 0, none⟩) xs.length xs.length, .bool true]) (by simp [results, Try.results42, go_sem]) rfl ?_
        refine ⟨some ⟨g1, 0, none⟩, xs.length, by rw [H0.out, H1.out, HLN.out], ?_, bw3.alloc bw3.size _⟩
        rw [H1.out, HLN.out]
        exact (hP.alloc _).mono bw2.size
      · have H0 : Hid (lpB (xs.length : Int) xs t = false) := by rw [Hid, HLB.out, ho]; rfl
        have H1 : Hid (lpL (xs.length : Int) xs t = []) := by rw [Hid, lpL, if_neg (by rw [H0.out]; simp)]
        clear ho
        go_wp2_with fail
        refine bodyPost_ret (v := .tuple #[.slice none 0 0, .bool false]) (by simp [results, Try.results42, go_sem]) rfl ?_
        exact ⟨none, 0, by rw [H0.out, H1.out]; rfl, by rw [H1.out]; exact OwnI.nil _ _, bw3.alloc bw3.size _⟩

theorem iLeastTh_any (n : Int) (a : Option Addr) (xs : List Int) (cap : Nat) (w : World) (hn : -9223372036854775808 ≤ n ∧ n ≤ 9223372036854775807) (hx : Rd w a xs) :
    Calls Try.prog 46 #[.agg #[.int .i64 n, .slice a xs.length cap]] w fun e w' => e = .returned (.tuple #[.int .i64 (ltR n xs), .bool (ltO n xs)]) ∧ Below w.heap.size w w' := by
  go_enter Try.func46, Try.ntmps46
  go_wp2_with fail
  go_loopw [4] (fun i wr => ∃ k : Nat, k ≤ 10 ∧ i = .int .i64 ((k : Int) + 1) ∧ (∀ j : Nat, j < k → lpB n xs ((j : Int) + 1) = false) ∧ Below w.heap.size w wr ∧ Box2 wr w.heap.size (.int .i64 n) (.slice a xs.length cap)) (fun i _ => 11 - (intOf i).toNat)
  case atStart => exact ⟨0, by omega, rfl, fun j hj => by omega, (by repeat (first | exact Below.refl _ _ | assumption | refine Below.alloc ?_ (by first | exact Nat.le_refl _ | (simp only [World.size_alloc, World.size_setCell, World.size_drew]; omega) | omega) _ | refine Below.setCell ?_ (by first | exact Nat.le_refl _ | (simp only [World.size_alloc, World.size_setCell, World.size_drew]; omega) | omega) _ | refine Below.drew ?_)), Box2.new w _ _ _⟩
  case round =>
    obtain ⟨k, hk, rfl, hall, hb, hB⟩ := hrel
    have HA := Lib.hid hall
    have ⟨zB, cB, dB⟩ := hB
    clear hall
    by_cases hlt : k < 10
    · have k1 : (k : Int) + 1 ≤ 10 := by omega
      cases hl : lpB n xs ((k : Int) + 1)
      · have HL := Lib.hid hl
        clear hl
        go_wp2_with fail
        refine (iLeastPl_any _ _ _ _ _ _ hn (hx.below hb) ⟨by omega, by omega⟩).mono ?_
        rw [HL.out]
        rintro e w2 ⟨a2, c2, rfl, ho2, hb2⟩
        have bw2 := hb.trans (hb2.mono hb.size)
        have B2 := hB.below hb2
        clear ho2 hb2 cB dB
        go_wp2_with fail
        go_roundw
        case rel =>
          refine ⟨k + 1, by omega, by go_num, fun j hj => ?_, bw2, B2⟩
          by_cases e : j = k
          · rw [e]; exact HL.out
          · exact HA.out j (by omega)
        case measure => simp [intOf]; omega
      · have hf := lt_at hlt hl HA.out
        have H1 : Hid (ltR n xs = (k : Int) + 1) := by simp [Hid, ltR, hf]
        have H2 : Hid (ltO n xs = true) := by simp [Hid, ltO, hf]
        have HL := Lib.hid hl
        clear hl hf
        go_wp2_with fail
        refine (iLeastPl_any _ _ _ _ _ _ hn (hx.below hb) ⟨by omega, by omega⟩).mono ?_
        rw [HL.out]
        rintro e w2 ⟨a2, c2, rfl, ho2, hb2⟩
        have bw2 := hb.trans (hb2.mono hb.size)
        clear ho2 hb2 cB dB
        go_wp2_with fail
        go_ret2
        exact ⟨ret_ib H1.out.symm H2.out.symm, bw2⟩
    · obtain rfl : k = 10 := by omega
      have hf := lt_none HA.out
      have H1 : Hid (ltR n xs = 0) := by simp [Hid, ltR, hf]
      have H2 : Hid (ltO n xs = false) := by simp [Hid, ltO, hf]
      clear hf
      go_wp2_with fail
      go_ret2
      exact ⟨ret_ib H1.out.symm H2.out.symm, hb⟩

theorem walk (n0 : Int) (a0 : Option Addr) (xs0 : List Int) (cap0 : Nat) (w : World) (hn0 : -9223372036854775808 ≤ n0 ∧ n0 ≤ 9223372036854775807) (hx0 : Rd w a0 xs0) :
    Calls Try.prog 11 #[.agg #[.int .i64 n0, .slice a0 xs0.length cap0]] w fun e w' => e = .returned (.bool true) ∧ Below w.heap.size w w' := by
  by_cases hs0 : 1048576 < (xs0.length : Int)
  · go_enter Try.func11, Try.ntmps11
    go_wp2_with fail
    refine (szOrder_no (by omega) (by omega) (by omega) hx0.len).mono ?_
    rintro e w1 ⟨rfl, hb1⟩
    have bw1 : Below w.heap.size w w1 := Below.trans (by repeat (first | exact Below.refl _ _ | assumption | refine Below.alloc ?_ (by first | exact Nat.le_refl _ | (simp only [World.size_alloc, World.size_setCell, World.size_drew]; omega) | omega) _ | refine Below.setCell ?_ (by first | exact Nat.le_refl _ | (simp only [World.size_alloc, World.size_setCell, World.size_drew]; omega) | omega) _ | refine Below.drew ?_)) (hb1.mono (by first | (simp only [World.size_alloc, World.size_setCell, World.size_drew]; omega) | omega))
    have A0_1 : Box2 w1 w.heap.size (.int .i64 n0) (.slice a0 xs0.length cap0) := ⟨by have := hb1.size; simp at this; omega, (hb1.cell (p := ⟨w.heap.size, 0, none⟩) (by simp <;> omega)).trans (by simp), (hb1.cell (p := ⟨w.heap.size, 1, none⟩) (by simp <;> omega)).trans (by simp)⟩
    have ⟨zA0_1, cA0_1, dA0_1⟩ := A0_1
    go_wp2_with fail
    go_ret
    exact ⟨rfl, bw1⟩
  go_enter Try.func11, Try.ntmps11
  go_wp2_with fail
  refine (szOrder_ok (by omega) (by omega)).mono ?_
  rintro e w1 ⟨rfl, hb⟩
  have bw1 : Below w.heap.size w w1 := Below.trans (by repeat (first | exact Below.refl _ _ | assumption | refine Below.alloc ?_ (by first | exact Nat.le_refl _ | (simp only [World.size_alloc, World.size_setCell, World.size_drew]; omega) | omega) _ | refine Below.setCell ?_ (by first | exact Nat.le_refl _ | (simp only [World.size_alloc, World.size_setCell, World.size_drew]; omega) | omega) _ | refine Below.drew ?_)) (hb.mono (by first | (simp only [World.size_alloc, World.size_setCell, World.size_drew]; omega) | omega))
  have z1 : w.heap.size ≤ w1.heap.size := bw1.size
  have A0_1 : Box2 w1 w.heap.size (.int .i64 n0) (.slice a0 xs0.length cap0) := ⟨by have := hb.size; simp at this; omega, (hb.cell (p := ⟨w.heap.size, 0, none⟩) (by simp <;> omega)).trans (by simp), (hb.cell (p := ⟨w.heap.size, 1, none⟩) (by simp <;> omega)).trans (by simp)⟩
  have ⟨zA0_1, cA0_1, dA0_1⟩ := A0_1
  clear hb
  go_wp2_with fail
  refine (toOrder_any _ _ _ _ _ (hx0.below bw1) (by omega)).mono ?_
  rintro e w2 ⟨pT0, qT0, rfl, ho, hb⟩
  have ht : Below w1.heap.size w1 w2 := hb
  have z2 : w1.heap.size ≤ w2.heap.size := ht.size
  have bw2 : Below w.heap.size w w2 := bw1.trans (ht.mono bw1.size)
  have A0_2 := A0_1.below ht
  have ⟨zA0_2, cA0_2, dA0_2⟩ := A0_2
  clear A0_1 cA0_1 dA0_1
  have T0_2 := ho
  have UT0 := T0_2.cut (Nat.le_refl _)
  clear ho
  clear ht hb
  go_wp2_with fail
  refine (sLeastTh_any _ _ _ _ _ hn0 (T0_2.rd)).mono ?_
  rintro e w3 ⟨rfl, hb⟩
  have ht : Below w2.heap.size w2 w3 := hb
  have z3 : w2.heap.size ≤ w3.heap.size := ht.size
  have bw3 : Below w.heap.size w w3 := bw2.trans (ht.mono bw2.size)
  have A0_3 := A0_2.below ht
  have ⟨zA0_3, cA0_3, dA0_3⟩ := A0_3
  have T0_3 := T0_2.below ht (Nat.le_refl _)
  clear A0_2 cA0_2 dA0_2 T0_2
  clear ht hb
  go_wp2_with fail
  clear T0_3 UT0
  refine (toOrder_any _ _ _ _ _ (hx0.below bw3) (by omega)).mono ?_
  rintro e w4 ⟨pX0, qX0, rfl, ho, hb⟩
  have ht : Below w3.heap.size w3 w4 := hb
  have z4 : w3.heap.size ≤ w4.heap.size := ht.size
  have bw4 : Below w.heap.size w w4 := bw3.trans (ht.mono bw3.size)
  have A0_4 := A0_3.below ht
  have ⟨zA0_4, cA0_4, dA0_4⟩ := A0_4
  clear A0_3 cA0_3 dA0_3
  have X0_4 := ho
  have UX0 := X0_4.cut (Nat.le_refl _)
  clear ho
  clear ht hb
  go_wp2_with fail
  refine (iLeastTh_any _ _ _ _ _ hn0 (X0_4.rd.below (by repeat (first | exact Below.refl _ _ | assumption | refine Below.alloc ?_ (by first | exact Nat.le_refl _ | (simp only [World.size_alloc, World.size_setCell, World.size_drew]; omega) | omega) _ | refine Below.setCell ?_ (by first | exact Nat.le_refl _ | (simp only [World.size_alloc, World.size_setCell, World.size_drew]; omega) | omega) _ | refine Below.drew ?_)))).mono ?_
  rintro e w5 ⟨rfl, hb⟩
  have ht : Below w4.heap.size w4 w5 := Below.trans (by repeat (first | exact Below.refl _ _ | assumption | refine Below.alloc ?_ (by first | exact Nat.le_refl _ | (simp only [World.size_alloc, World.size_setCell, World.size_drew]; omega) | omega) _ | refine Below.setCell ?_ (by first | exact Nat.le_refl _ | (simp only [World.size_alloc, World.size_setCell, World.size_drew]; omega) | omega) _ | refine Below.drew ?_)) (hb.mono (by first | (simp only [World.size_alloc, World.size_setCell, World.size_drew]; omega) | omega))
  have z5 : w4.heap.size ≤ w5.heap.size := ht.size
  have bw5 : Below w.heap.size w w5 := bw4.trans (ht.mono bw4.size)
  have A0_5 := A0_4.below ht
  have BX0_5 : Box2 w5 w4.heap.size (.int .i64 n0) (.slice pX0 xs0.length qX0) := (Box2.new w4 _ _ 32).below hb
  have ⟨zA0_5, cA0_5, dA0_5⟩ := A0_5
  have ⟨zBX0_5, cBX0_5, dBX0_5⟩ := BX0_5
  have X0_5 := X0_4.below ht (Nat.le_refl _)
  clear A0_4 cA0_4 dA0_4 X0_4
  clear ht hb
  go_wp2_with fail
  go_region_held3 (fun w' => w'.cell? ⟨w.heap.size, 0, none⟩ = some (.int .i64 n0) ∧ w'.cell? ⟨w.heap.size, 1, none⟩ = some (.slice a0 xs0.length cap0) ∧ w'.cell? ⟨w4.heap.size, 0, none⟩ = some (.int .i64 n0) ∧ w'.cell? ⟨w4.heap.size, 1, none⟩ = some (.slice pX0 xs0.length qX0))
    (first | exact ⟨P7.2.1, P7.2.2, Q7.2.1, Q7.2.2⟩ | exact ⟨P6.2.1, P6.2.2, Q6.2.1, Q6.2.2⟩ | go_keep)
    (first | (go_at_call 18; refine (toOrder_any _ _ _ _ _ (hx0.below (bw5.trans (Joins.below_draws _ _ _))) (by omega)).mono ?_; rintro e w6 ⟨a6', cap6', rfl, ho6, hb6⟩; have ht6 : Below w5.heap.size w5 w6 := (Joins.below_draws _ _ _).trans hb6; have P6 := A0_5.below ht6; have Q6 := BX0_5.below ht6) | (go_at_call 21; refine (eqOrder_any _ _ _ _ xs0 xs0 _ _ _ (X0_5.rd.below ht6) ho6.rd).mono ?_; rw [eqO_refl]; rintro e w7 ⟨rfl, hb7⟩; have P7 := P6.below hb7; have Q7 := Q6.below hb7))
  have ht : Below w5.heap.size w5 w7 := ht6.trans (hb7.mono ht6.size)
  have z7 : w5.heap.size ≤ w7.heap.size := ht.size
  have bw7 : Below w.heap.size w w7 := bw5.trans (ht.mono bw5.size)
  clear P6 Q6 P7 Q7 ho6
  have A0_7 := A0_5.below ht
  have BX0_7 := BX0_5.below ht
  have ⟨zA0_7, cA0_7, dA0_7⟩ := A0_7
  have ⟨zBX0_7, cBX0_7, dBX0_7⟩ := BX0_7
  have X0_7 := X0_5.below ht (Nat.le_refl _)
  clear A0_5 cA0_5 dA0_5 BX0_5 cBX0_5 dBX0_5 X0_5
  clear ht hb7 ht6 hb6
  go_wp2_with fail
  go_ret
  exact ⟨rfl, bw7⟩

theorem rd_of_trod {H : Type} {enc : TypeId × Value → H} {W : World} {fuel : Nat} {c : Value} {y : DataW H × List MemPlace}
    (h : DataW.trod enc Try.prog W 0 (fun _ => true) true fuel 23 [c] = some y) : ∃ (a : Option Addr) (xs : List Int) (cap : Nat), c = .slice a xs.length cap ∧ Rd W a xs ∧ ∀ k, k < xs.length → (Lit.int .i64 (nth xs k)).wf = true := by
  rcases Go.ChangeShapes.open_ints Try.underlying23 Try.underlying3 (by kernel_rfl) h with ⟨hcs, _⟩ | ⟨x, len, cap, zs, hcs, _, hl, hm, hz, _, hcell, hwf⟩
  · simp only [List.cons.injEq, and_true] at hcs
    exact ⟨none, [], 0, hcs, ⟨by simp, fun k hk => by simp at hk⟩, fun k hk => by simp at hk⟩
  · simp only [List.cons.injEq, and_true] at hcs
    simp only [if_true] at hz
    have hlen : (zs.take len).length = len := by rw [List.length_take]; omega
    have hn : ∀ k, k < len → nth (zs.take len) k = zs.getD k 0 := by
      intro k hk
      simp only [nth, List.getD_eq_getElem?_getD, List.getElem?_take, hk, if_true]
    refine ⟨some x, zs.take len, cap, by rw [hlen]; exact hcs, ⟨by rw [hlen]; unfold maxLen at hm; omega, fun k hk => ?_⟩, fun k hk => ?_⟩
    · rw [hlen] at hk
      obtain ⟨b, off, sp⟩ := x
      have h0 := hcell 0 (by omega)
      have hsp : sp = none := by simpa [Addr.add] using World.cell?_spot h0
      subst hsp
      have hk' := hcell k (by omega)
      rw [Addr.add_lit] at hk'
      exact ⟨b, off, rfl, World.block_lt_of_cell? _ _ h0, by rw [hk', hn k hk]⟩
    · rw [hlen] at hk
      rw [hn k hk]
      have hk2 : k < zs.length := by omega
      exact hwf _ (by rw [List.getD_eq_getElem?_getD, List.getElem?_eq_getElem hk2]; exact List.getElem_mem hk2)

theorem own : ownKnob Try.prog.godebug = none := by kernel_rfl
theorem laidOut : laidOutB Try.prog = true := by kernel_rfl
theorem wf_bd {n : Int} (h : (Lit.int .i64 n).wf = true) : -9223372036854775808 ≤ n ∧ n ≤ 9223372036854775807 := by
  simp [Lit.wf, IntKind.min, IntKind.max, IntKind.bits, IntKind.signed] at h
  omega

theorem cellsO : Try.prog.cellsOf 25 = 2 := by kernel_rfl

open Go.ChangeShapes Go.WideShapes Go.ChangeAt Go.RowKit in
set_option maxRecDepth 100000 in
theorem lifted (os : Os) (started : os.Started) (H : Type) (enc : TypeId × Value → H) :
    ReturnsInHanded {} Try.checked os 11 .any (Rows.fnExactLeastThresholdSpec.pre6 enc Try.prog Try.f11 Rows.fnExactLeastThresholdRow.domain false) (Rows.fnExactLeastThresholdSpec.post enc Try.prog Try.f11 false true false false) := by
  refine returnsInHanded_of_change (C := Try.checked) own started (by kernel_rfl) Try.func11
    (ChangeSpec.witness6 (enc := enc) (C := Try.checked) false ⟨#[], #[.agg #[.int .i64 0, .slice none 0 0]], []⟩ 8 (by kernel_rfl) (by kernel_rfl) (by kernel_rfl) (by kernel_rfl)) ?_
  intro W base args ds gs before hval0 hW hcnd _
  have hval : ∀ (j : Nat) t v, Try.f11.params[j]? = some t → args[j]? = some v → Value.okWide Try.prog W .any base t v := hval0
  have hW' := hW
  obtain ⟨p, q, hA0, hV, rfl, hfz, hnd⟩ := hW
  have hA : DataW.TrodAll enc Try.prog W 0 (fun _ => true) true Try.f11.params.toList args.toList ds p := hA0
  rw [Try.params11] at hA hval
  obtain ⟨v0, vs0, d0, ds0, p0, q0, hargs, rfl, rfl, h0, r0⟩ := trodAll_cons hA
  obtain ⟨rfl, rfl, rfl⟩ := trodAll_nil r0
  obtain rfl : args = #[v0] := by cases args; simp_all
  obtain ⟨rfl, rfl⟩ := trodVars_none hV
  have lt0 : ∀ x ∈ p0, x.block < W.heap.size := by obtain ⟨m, hm⟩ := h0; exact DataW.trod_lt m _ _ _ hm
  obtain ⟨c00, c01, y00, y01, m0, rfl, hd0, hp0, hy00, hy01⟩ := Go.Joins.open_agg2 Try.underlying25 (by kernel_rfl) cellsO (hval 0 25 v0 rfl rfl) h0
  obtain ⟨n0, e00, _, wf0⟩ := DataW.trod_int Try.underlying3 hy00
  simp only [List.cons.injEq, and_true] at e00
  subst e00
  obtain ⟨a0, xs0, cap0, rfl, rd0, wl0⟩ := rd_of_trod hy01
  clear hA0 hval0
  refine (walk n0 a0 xs0 cap0 W (wf_bd wf0) rd0).mono fun e W' ⟨he, bel⟩ => ?_
  subst he
  exact ⟨_, rfl, _, _, _, [], _, [], hW', trodAll_mk1 (shut_bool Try.underlying4 _), (trodAll_cons_mk (Below.trod laidOut (by kernel_rfl) (of_decide_eq_true (by kernel_rfl)) h0 bel lt0) trodAll_mk0), rfl, bel.frame _, fun h => by cases h⟩
theorem proved : Rows.FnExactLeastThresholdSaid :=
  OpenClaim.holds_of_wide 11 Try.f11 rfl rfl rfl rfl rfl rfl rfl ⟨rfl, rfl, rfl, rfl, rfl⟩ rfl rfl rfl rfl rfl (by kernel_rfl) Try.func11 (by kernel_rfl)
    (of_decide_eq_true (by kernel_rfl)) (by unfold Func.isWrapper; first | (rw [if_pos (by decide +kernel)]; kernel_rfl) | (rw [if_neg (by decide +kernel)]; exact ⟨rfl, rfl⟩))
    (fun os started H enc _ => lifted os started H enc)

end Go.Proofs.Ytonphneolkijcaa.leastThreshold
