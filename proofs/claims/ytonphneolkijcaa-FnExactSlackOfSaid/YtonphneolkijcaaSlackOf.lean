/- PROVED: the law FnExactSlackOf returns true for every input, and each of its arguments reads afterwards as before. No conditions. -/
import Derived.Test.YtonphneolkijcaaRows
import Derived.WalkKit
import Derived.WalkSpells
import Derived.WalkLawsBesides
import Derived.Deep.QuietTactic
import Derived.BigQuiet
import Derived.ProofKit
import Derived.OpenShut
import Derived.ShutString
import Derived.ChangeOld
import Derived.Below
import Derived.Lib.SmallJoins
import Derived.Lib.Hide
import Derived.Deep.RegionHeld3
import Derived.Deep.RegionLaw
namespace Go.Proofs.Ytonphneolkijcaa.slackOf
open Go Go.RowKit
set_option linter.unusedVariables false
set_option linter.unusedSimpArgs false
set_option maxHeartbeats 400000


/-- a number of a list; a plain function, which the walk leaves alone -/
def nth (xs : List Int) (k : Nat) : Int := xs.getD k 0
theorem nth_get (xs : List Int) (k : Nat) (h : k < xs.length) : nth xs k = xs[k] := by simp [nth, h]
/-- the slice at an address reads as a list -/
structure Rd (w : World) (a : Option Addr) (xs : List Int) : Prop where
  len : xs.length ≤ 9223372036854775807
  cell : ∀ k, k < xs.length → ∃ b off, a = some ⟨b, off, none⟩ ∧ b < w.heap.size ∧ w.cell? ⟨b, off + k, none⟩ = some (.int .i64 (nth xs k))
theorem Rd.below {w w' : World} {a : Option Addr} {xs : List Int} (h : Rd w a xs) (hb : Below w.heap.size w w') : Rd w' a xs :=
  ⟨h.len, fun k hk => by
    obtain ⟨b, off, e, hl, hc⟩ := h.cell k hk
    exact ⟨b, off, e, Nat.lt_of_lt_of_le hl hb.size, (hb.cell (World.block_lt_of_cell? _ _ hc)).trans hc⟩⟩
theorem Rd.mid {w w1 w2 : World} {a : Option Addr} {xs : List Int} {B : Nat} (h : Rd w a xs) (hb : Below B w1 w2) (hB : w.heap.size ≤ B) (h1 : Rd w1 a xs) : Rd w2 a xs :=
  ⟨h.len, fun k hk => by
    obtain ⟨b, off, e, hl, hc⟩ := h.cell k hk
    obtain ⟨b', off', e', hl', hc'⟩ := h1.cell k hk
    rw [e] at e'
    simp only [Option.some.injEq, Addr.mk.injEq, and_true] at e'
    obtain ⟨rfl, rfl⟩ := e'
    exact ⟨b, off, e, Nat.lt_of_lt_of_le hl' hb.size, (hb.cell (by show b < B; omega)).trans hc'⟩⟩
theorem Rd.alloc {w : World} {a : Option Addr} {xs : List Int} (h : Rd w a xs) (o : Obj) : Rd (w.alloc o) a xs :=
  h.below ((Below.refl _ _).alloc (Nat.le_refl _) o)
theorem Rd.same {w w' : World} {a : Option Addr} {xs : List Int} (h : Rd w a xs) (hs : w.heap.size ≤ w'.heap.size)
    (hb : ∀ b off, a = some ⟨b, off, none⟩ → w'.heap[b]? = w.heap[b]?) : Rd w' a xs :=
  ⟨h.len, fun k hk => by
    obtain ⟨b, off, e, hl, hc⟩ := h.cell k hk
    exact ⟨b, off, e, Nat.lt_of_lt_of_le hl hs, (World.cell?_of_block (w := w) (a := ⟨b, off + k, none⟩) (hb b off e)).trans hc⟩⟩
/-- a slice value that owns the row of these integers, in a block from B on -/
def OwnI (w : World) (B : Nat) (v : Value) (xs : List Int) : Prop := w.ownsRow B 3 1 v xs.length (xs.map (Value.int .i64))
theorem OwnI.form {w : World} {B : Nat} {v : Value} {xs : List Int} (h : OwnI w B v xs) : ∃ a cap, v = .slice a xs.length cap := by
  rcases h.2 with ⟨rfl, h0⟩ | ⟨g, cap, cur, rfl, _⟩
  · exact ⟨none, 0, by rw [h0]⟩
  · exact ⟨_, _, rfl⟩
theorem OwnI.rd {w : World} {B n cap : Nat} {a : Option Addr} {xs : List Int} (h : OwnI w B (.slice a n cap) xs) : Rd w a xs := by
  rcases h.2 with ⟨e, h0⟩ | ⟨g, cap', cur, e, hb, hg, hn, hm, hs, ht⟩
  · exact ⟨by omega, fun k hk => by omega⟩
  · simp only [Value.slice.injEq] at e
    obtain ⟨rfl, rfl, rfl⟩ := e
    refine ⟨by unfold maxLen at hm; omega, fun k hk => ⟨g, 0, rfl, (Array.getElem?_eq_some_iff.1 hg).1, ?_⟩⟩
    have := World.ownsRow.cellAt h k (by omega)
    rw [Nat.zero_add, this]
    simp [nth, hk]
theorem OwnI.blk {w : World} {B n cap : Nat} {a : Option Addr} {xs : List Int} (h : OwnI w B (.slice a n cap) xs) : ∀ b off s, a = some ⟨b, off, s⟩ → B ≤ b ∧ b < w.heap.size := by
  intro b off s e
  subst e
  exact World.ownsRow.lt h b rfl
theorem OwnI.kept {w w' : World} {B : Nat} {v : Value} {xs : List Int} {row : Option Nat} (h : OwnI w B v xs) (hg : w.grownBy w' row) (hne : v.ownBlock = none ∨ v.ownBlock ≠ row) : OwnI w' B v xs := World.ownsRow.kept h hg hne
theorem OwnI.mono {w : World} {B B' : Nat} {v : Value} {xs : List Int} (h : OwnI w B v xs) (hB : B' ≤ B) : OwnI w B' v xs := by
  refine ⟨h.1, ?_⟩
  rcases h.2 with hn | ⟨g, cap, cur, e, hb, rest⟩
  · exact .inl hn
  · exact .inr ⟨g, cap, cur, e, by omega, rest⟩
theorem OwnI.below {w w' : World} {B B' : Nat} {v : Value} {xs : List Int} (h : OwnI w B v xs) (hb : Below B' w w') (hB : w.heap.size ≤ B') : OwnI w' B v xs := by
  refine ⟨h.1, ?_⟩
  rcases h.2 with hn | ⟨g, cap, cur, e, hb', hg, rest⟩
  · exact .inl hn
  · refine .inr ⟨g, cap, cur, e, hb', ?_, rest⟩
    rw [hb.block g (by have := (Array.getElem?_eq_some_iff.1 hg).1; omega)]
    exact hg
theorem ret_bool {a b : Bool} (h : a = b) : Ending.returned (.bool a) = .returned (.bool b) := by rw [h]
theorem ret_int {a b : Int} (h : a = b) : Ending.returned (.int .i64 a) = .returned (.int .i64 b) := by rw [h]
theorem val_int {a b : Int} (h : a = b) : Value.int .i64 a = .int .i64 b := by rw [h]
theorem grown_below {w w' : World} {g : Nat} (h : w.grownBy w' (some g)) (B : Nat) (hB : B ≤ g) (hs : B ≤ w.heap.size) : Below B w w' :=
  ⟨h.os, h.tape, h.output, h.size, fun k hk => h.block k (by omega) (by intro e; simp only [Option.some.injEq] at e; omega)⟩
theorem below_grown {w w' : World} {B : Nat} (h : Below B w w') (hB : w.heap.size ≤ B) (row : Option Nat) : w.grownBy w' row :=
  ⟨h.os, h.tape, h.output, h.size, fun k hk _ => h.block k (by omega)⟩
theorem bcell {W w1 : World} (hb : Below W.heap.size W w1) : (∀ b o, b < W.heap.size → w1.cell? ⟨b, o, none⟩ = W.cell? ⟨b, o, none⟩) ∧ (∀ b o, b < W.heap.size → w1.frozen? ⟨b, o, none⟩ = W.frozen? ⟨b, o, none⟩) :=
  ⟨fun b o h => hb.cell (p := ⟨b, o, none⟩) h, fun b o h => hb.frozen (p := ⟨b, o, none⟩) h⟩
theorem infoInt : (Try.prog.info? 3).map (fun i => (i.zero, i.size, i.bytes)) = some (some (.int .i64 0), 1, 8) := by kernel_rfl
theorem OwnI.setBelow {w : World} {B : Nat} {v : Value} {xs : List Int} (h : OwnI w B v xs) {p : Addr} (hp : p.block < B) (u : Value) : OwnI (w.setCell p u) B v xs := ownsRow_setCell_below h hp u
theorem OwnI.alloc {w : World} {B : Nat} {v : Value} {xs : List Int} (h : OwnI w B v xs) (o : Obj) : OwnI (w.alloc o) B v xs := h.below ((Below.refl _ _).alloc (Nat.le_refl _) o) (Nat.le_refl _)
theorem Below.mono' {B B' : Nat} {w w' : World} (h : Below B w w') (hB : B' ≤ B) : Below B' w w' := h.mono hB
/-- a block that holds two cells -/
def Box2 (w : World) (b : Nat) (u v : Value) : Prop := b < w.heap.size ∧ w.cell? ⟨b, 0, none⟩ = some u ∧ w.cell? ⟨b, 1, none⟩ = some v
theorem Box2.below {w w' : World} {b : Nat} {u v : Value} (h : Box2 w b u v) (hb : Below w.heap.size w w') : Box2 w' b u v :=
  ⟨Nat.lt_of_lt_of_le h.1 hb.size, (hb.cell (p := ⟨b, 0, none⟩) h.1).trans h.2.1, (hb.cell (p := ⟨b, 1, none⟩) h.1).trans h.2.2⟩
theorem Box2.new (w : World) (u v : Value) (t : TypeId) : Box2 (w.alloc (.cells #[u, v] t)) w.heap.size u v :=
  ⟨by simp, by simp, by simp⟩
theorem Box2.kept {w w' : World} {b : Nat} {u v : Value} {row : Option Nat} (h : Box2 w b u v) (hg : w.grownBy w' row) (hne : some b ≠ row) : Box2 w' b u v :=
  ⟨Nat.lt_of_lt_of_le h.1 hg.size, hg.cell h.2.1 hne, hg.cell h.2.2 hne⟩
theorem OwnI.lt {w : World} {B : Nat} {v : Value} {xs : List Int} (h : OwnI w B v xs) : ∀ b, v.ownBlock = some b → B ≤ b ∧ b < w.heap.size := World.ownsRow.lt h
theorem OwnI.cut {w : World} {B : Nat} {v : Value} {xs : List Int} (h : OwnI w B v xs) {U : Nat} (hU : w.heap.size ≤ U) : ∀ b, v.ownBlock = some b → B ≤ b ∧ b < U := fun b e => ⟨(h.lt b e).1, Nat.lt_of_lt_of_le (h.lt b e).2 hU⟩
/-- a block of two cells that may be written -/
def Var2 (w : World) (b : Nat) (u v : Value) : Prop := Box2 w b u v ∧ w.frozen? ⟨b, 0, none⟩ = false ∧ w.frozen? ⟨b, 1, none⟩ = false
theorem Var2.below {w w' : World} {b : Nat} {u v : Value} (h : Var2 w b u v) (hb : Below w.heap.size w w') : Var2 w' b u v :=
  ⟨h.1.below hb, (hb.frozen (p := ⟨b, 0, none⟩) h.1.1).trans h.2.1, (hb.frozen (p := ⟨b, 1, none⟩) h.1.1).trans h.2.2⟩
theorem Var2.new (w : World) (u v : Value) (t : TypeId) : Var2 (w.alloc (.cells #[u, v] t)) w.heap.size u v :=
  ⟨Box2.new w u v t, by simp, by simp⟩
theorem Var2.alloc {w : World} {b : Nat} {u v : Value} (h : Var2 w b u v) (o : Obj) : Var2 (w.alloc o) b u v := h.below ((Below.refl _ _).alloc (Nat.le_refl _) o)
theorem Var2.kept {w w' : World} {b : Nat} {u v : Value} {row : Option Nat} (h : Var2 w b u v) (hg : w.grownBy w' row) (hne : some b ≠ row) : Var2 w' b u v :=
  ⟨h.1.kept hg hne, (World.frozen?_of_block (w := w) (a := ⟨b, 0, none⟩) (hg.block b h.1.1 hne)).trans h.2.1, (World.frozen?_of_block (w := w) (a := ⟨b, 1, none⟩) (hg.block b h.1.1 hne)).trans h.2.2⟩
theorem Var2.set {w : World} {b : Nat} {u v : Value} (h : Var2 w b u v) (u' v' : Value) : Var2 ((w.setCell ⟨b, 0, none⟩ u').setCell ⟨b, 1, none⟩ v') b u' v' := by
  refine ⟨⟨by simpa using h.1.1, ?_, ?_⟩, by simpa using h.2.1, by simpa using h.2.2⟩
  · rw [World.cell?_setCell_other _ _ _ _ (by simp), World.cell?_setCell_same _ _ _ h.1.2.1]
  · rw [World.cell?_setCell_same _ _ _ (u := v) (by rw [World.cell?_setCell_other _ _ _ _ (by simp)]; exact h.1.2.2)]
theorem grown_set (w : World) (p : Addr) (u : Value) : w.grownBy (w.setCell p u) (some p.block) :=
  ⟨rfl, rfl, rfl, by simp, fun k hk hn => Below.heap_setCell w p u k (fun e => hn (by rw [e]))⟩
theorem Var2.set1 {w : World} {b : Nat} {u v : Value} (h : Var2 w b u v) (v' : Value) : Var2 (w.setCell ⟨b, 1, none⟩ v') b u v' := by
  refine ⟨⟨by simpa using h.1.1, ?_, ?_⟩, by simpa using h.2.1, by simpa using h.2.2⟩
  · rw [World.cell?_setCell_other _ _ _ _ (by simp)]; exact h.1.2.1
  · rw [World.cell?_setCell_same _ _ _ h.1.2.2]
theorem Box2.set {w : World} {b : Nat} {u v : Value} (h : Box2 w b u v) {p : Addr} (x : Value) (hne : b ≠ p.block) : Box2 (w.setCell p x) b u v :=
  h.kept (grown_set w p x) (by simpa using hne)
theorem Var2.other {w : World} {b : Nat} {u v : Value} (h : Var2 w b u v) {p : Addr} (x : Value) (hne : b ≠ p.block) : Var2 (w.setCell p x) b u v :=
  h.kept (grown_set w p x) (by simpa using hne)
theorem ne_own {v : Value} {b : Nat} (h : ∀ c, v.ownBlock = some c → c ≠ b) : some b ≠ v.ownBlock := fun e => h b e.symm rfl
theorem grown_alloc_set {w w1 : World} {r : Option Nat} {o : Obj} (h : (w.alloc o).grownBy w1 r) : w.grownBy w1 r :=
  ⟨h.os, h.tape, h.output, by have := h.size; simp at this; omega, fun k hk hn => (h.block k (by simp; omega) hn).trans (Below.heap_alloc w o k hk)⟩
theorem grown_trans {w w1 w2 : World} {r : Option Nat} (h1 : w.grownBy w1 r) (h2 : w1.grownBy w2 r) : w.grownBy w2 r :=
  ⟨h2.os.trans h1.os, h2.tape.trans h1.tape, h2.output.trans h1.output, Nat.le_trans h1.size h2.size, fun k hk hn => (h2.block k (by have := h1.size; omega) hn).trans (h1.block k hk hn)⟩
theorem OwnI.nil (w : World) (B : Nat) : OwnI w B (.slice none 0 0) [] := World.ownsRow_nil _ _ _ _
theorem below_of_grown {w w' : World} {v : Value} {B : Nat} (hg : w.grownBy w' v.ownBlock) (hB : ∀ b, v.ownBlock = some b → B ≤ b) (hs : B ≤ w.heap.size) : Below B w w' :=
  ⟨hg.os, hg.tape, hg.output, hg.size, fun k hk => hg.block k (by omega) (fun e => by have := hB k e.symm; omega)⟩

def szF (left : Int) (n : Nat) : Int := if left - n < 0 then -1 else left - n
theorem szIntS_any (a : Option Addr) (n cap : Nat) (l : Int) (w : World) (h0 : 0 ≤ l) (h1 : l ≤ 1048576) (hn : n ≤ 9223372036854775807) :
    Calls Try.prog 51 #[.slice a n cap, .int .i64 l] w fun e w' => e = .returned (.int .i64 (szF l n)) ∧ w = w' := by
  by_cases h : l - n < 0
  · go_enter Try.func51, Try.ntmps51
    go_wp2
    go_ret
    exact ⟨ret_int (by simp [szF, h]), rfl⟩
  · go_enter Try.func51, Try.ntmps51
    go_wp2
    go_ret
    exact ⟨ret_int (by rw [szF, if_neg (by omega)]), rfl⟩

theorem szOrder_any (n : Int) (a : Option Addr) (len cap : Nat) (l : Int) (w : World) (h0 : 0 ≤ l) (h1 : l ≤ 1048576) (hn : len ≤ 9223372036854775807) :
    Calls Try.prog 15 #[.agg #[.int .i64 n, .slice a len cap], .int .i64 l] w fun e w' => e = .returned (.int .i64 (szF l len)) ∧ Below w.heap.size w w' := by
  by_cases h : l - len < 0
  · have hs : szF l len = -1 := by simp [szF, h]
    rw [hs]
    have HS := Lib.hid hs
    clear hs
    go_enter Try.func15, Try.ntmps15
    go_wp2_with (go_at_call 51; refine (szIntS_any _ _ _ _ _ h0 h1 hn).mono ?_; rintro e w' ⟨rfl, rfl⟩; rw [HS.out])
    go_ret
    exact ⟨rfl, (Below.refl _ _).alloc (Nat.le_refl _) _⟩
  · have hs : szF l len = l - len := by rw [szF, if_neg (by omega)]
    have hp : 0 ≤ szF l len := by omega
    clear hs
    go_enter Try.func15, Try.ntmps15
    go_wp2_with (go_at_call 51; refine (szIntS_any _ _ _ _ _ h0 h1 hn).mono ?_; rintro e w' ⟨rfl, rfl⟩)
    go_ret
    exact ⟨rfl, (Below.refl _ _).alloc (Nat.le_refl _) _⟩

theorem szOrder_ok {n : Int} {a : Option Addr} {len cap : Nat} {l : Int} {w : World} (h1 : l ≤ 1048576) (h : len ≤ l) :
    Calls Try.prog 15 #[.agg #[.int .i64 n, .slice a len cap], .int .i64 l] w fun e w' => e = .returned (.int .i64 (l - len)) ∧ Below w.heap.size w w' :=
  (szOrder_any n a len cap l w (by omega) h1 (by omega)).mono (fun e w' hh => ⟨by rw [hh.1, szF, if_neg (by omega)], hh.2⟩)
theorem szOrder_no {n : Int} {a : Option Addr} {len cap : Nat} {l : Int} {w : World} (h0 : 0 ≤ l) (h1 : l ≤ 1048576) (h : l < len) (hl : len ≤ 9223372036854775807) :
    Calls Try.prog 15 #[.agg #[.int .i64 n, .slice a len cap], .int .i64 l] w fun e w' => e = .returned (.int .i64 (-1)) ∧ Below w.heap.size w w' :=
  (szOrder_any n a len cap l w h0 h1 hl).mono (fun e w' hh => ⟨by rw [hh.1, szF, if_pos (by omega)], hh.2⟩)

theorem set_step (xs : List Int) (k : Nat) (h : k < xs.length) :
    ((xs.take k ++ List.replicate (xs.length - k) (0:Int)).map (Value.int .i64)).set k (.int .i64 (nth xs k)) = (xs.take (k+1) ++ List.replicate (xs.length - (k+1)) (0:Int)).map (Value.int .i64) := by
  apply List.ext_getElem?
  intro j
  have hk : (xs.take k).length = k := by simp; omega
  have hk1 : (xs.take (k+1)).length = k+1 := by simp; omega
  rw [List.getElem?_set]
  by_cases hj : k = j
  · subst hj
    rw [if_pos rfl, if_pos (by simp; omega), List.getElem?_map, List.getElem?_append_left (by omega)]
    simp [nth, h]
  · simp only [hj, if_false, List.getElem?_map, List.getElem?_append, hk, hk1, List.getElem?_take, List.getElem?_replicate]
    by_cases h1 : j < k
    · have h2 : j < k + 1 := by omega
      simp [h1, h2]
    · have h2 : ¬ j < k + 1 := by omega
      have h3 : j - k < xs.length - k ↔ j - (k+1) < xs.length - (k+1) := by omega
      simp [h1, h2, h3]
theorem toIntS_any (a : Option Addr) (xs : List Int) (cap : Nat) (w : World) (hx : Rd w a xs) (hn : xs.length ≤ 1048576) :
    Calls Try.prog 39 #[.slice a xs.length cap] w fun e w' => ∃ a' cap', e = .returned (.slice a' xs.length cap') ∧ OwnI w' w.heap.size (.slice a' xs.length cap') xs ∧ Below w.heap.size w w' := by
  obtain ⟨i0, hi, hz0, hz1, hz2⟩ := info_parts infoInt
  go_enter Try.func39, Try.ntmps39
  go_wp2_with (at_make; refine wpList_make_full _ rfl (.tmp 6) (.tmp 6) 23 rfl w.heap.size 3 i0 (.int .i64 0) 1 Try.underlying23 hi hz0 hz1 .i64 .i64 _ _ xs.length rfl rfl rfl rfl (by rw [hz2]; omega) (by unfold maxLen; omega) (Nat.le_refl _) ?_; intro w1 hown hgrow)
  have hb0 : Below w.heap.size w w1 := (Below.refl _ _).grown hgrow (Nat.le_refl _) (fun k h => by cases h)
  have hown0 : w1.ownsRow w.heap.size 3 1 (.slice (some ⟨w.heap.size, 0, none⟩) xs.length xs.length) xs.length ((xs.take 0 ++ List.replicate (xs.length - 0) (0:Int)).map (Value.int .i64)) := by
    simpa [Value.cells, toList_madeCells_one] using hown
  clear hown hgrow
  have hz : w.heap.size < w1.heap.size := by
    have := (World.ownsRow.lt hown0 w.heap.size rfl).2
    omega
  go_loopw [4] (fun i wr => ∃ k : Nat, k ≤ xs.length ∧ i = .int .i64 k ∧ wr.ownsRow w.heap.size 3 1 (.slice (some ⟨w.heap.size, 0, none⟩) xs.length xs.length) xs.length ((xs.take k ++ List.replicate (xs.length - k) (0:Int)).map (Value.int .i64)) ∧ Below w.heap.size w wr) (fun i _ => xs.length - (intOf i).toNat)
  case atStart => exact ⟨0, Nat.zero_le _, rfl, hown0, hb0⟩
  case round =>
    obtain ⟨k, hk, rfl, hown, hb⟩ := hrel
    by_cases hlt : k < xs.length
    · obtain ⟨b, off, rfl, hbl, hc⟩ := hx.cell k hlt
      have hc1 := (hb.cell (p := ⟨b, off + k, none⟩) hbl).trans hc
      have hst := World.ownsRow.stored hown k (.int .i64 (nth xs k))
      rw [set_step xs k hlt] at hst
      have hcc := World.ownsRow.cellAt hown k (by omega)
      have hfr := World.ownsRow.frozenAt hown k
      have hcc' : ∃ u, wr.cell? ⟨w.heap.size, k, none⟩ = some u := by
        rw [hcc]
        exact ⟨_, List.getElem?_eq_getElem (by simp; omega)⟩
      obtain ⟨u, hu⟩ := hcc'
      have Hst := Lib.hid hst
      clear hst hcc hown hc
      go_wp2
      go_roundw
      case rel => exact ⟨k + 1, by omega, by go_num, Hst.out.1, hb.setCell (Nat.le_refl _) _⟩
      case measure => simp [intOf]; omega
    · obtain rfl : k = xs.length := by omega
      go_wp2
      go_ret
      refine ⟨_, _, rfl, ?_, hb⟩
      have : xs.take xs.length ++ List.replicate (xs.length - xs.length) (0:Int) = xs := by simp
      rw [this] at hown
      exact hown

theorem toOrder_any (n : Int) (a : Option Addr) (xs : List Int) (cap : Nat) (w : World) (hx : Rd w a xs) (hn : xs.length ≤ 1048576) :
    Calls Try.prog 18 #[.agg #[.int .i64 n, .slice a xs.length cap]] w fun e w' => ∃ a' cap', e = .returned (.agg #[.int .i64 n, .slice a' xs.length cap']) ∧ OwnI w' w.heap.size (.slice a' xs.length cap') xs ∧ Below w.heap.size w w' := by
  go_enter Try.func18, Try.ntmps18
  go_wp2_with fail
  refine (toIntS_any _ _ _ _ (hx.below (by repeat (first | exact Below.refl _ _ | assumption | refine Below.alloc ?_ (by first | exact Nat.le_refl _ | (simp only [World.size_alloc, World.size_setCell, World.size_drew]; omega) | omega) _ | refine Below.setCell ?_ (by first | exact Nat.le_refl _ | (simp only [World.size_alloc, World.size_setCell, World.size_drew]; omega) | omega) _ | refine Below.drew ?_))) hn).mono ?_
  rintro e w1 ⟨a', cap', rfl, hown, hb⟩
  obtain ⟨hc, hf⟩ := bcell hb
  have hz := hb.size
  simp only [World.size_alloc, World.size_setCell] at hz
  go_wp2
  have hown' := ((((hown.setBelow (p := ⟨w.heap.size + 1 + 1, 1, none⟩) (by first | (simp only [World.size_alloc, World.size_setCell, World.size_drew]; omega) | omega) (.slice a' xs.length cap')).setBelow (p := ⟨w.heap.size + 1, 0, none⟩) (by first | (simp only [World.size_alloc, World.size_setCell, World.size_drew]; omega) | omega) (.int .i64 n)).setBelow (p := ⟨w.heap.size + 1, 1, none⟩) (by first | (simp only [World.size_alloc, World.size_setCell, World.size_drew]; omega) | omega) (.slice a' xs.length cap'))).mono (B' := w.heap.size) (by first | (simp only [World.size_alloc, World.size_setCell, World.size_drew]; omega) | omega)
  have hb' : Below w.heap.size w w1 := Below.trans (by repeat (first | exact Below.refl _ _ | assumption | refine Below.alloc ?_ (by first | exact Nat.le_refl _ | (simp only [World.size_alloc, World.size_setCell, World.size_drew]; omega) | omega) _ | refine Below.setCell ?_ (by first | exact Nat.le_refl _ | (simp only [World.size_alloc, World.size_setCell, World.size_drew]; omega) | omega) _ | refine Below.drew ?_)) (hb.mono (by first | (simp only [World.size_alloc, World.size_setCell, World.size_drew]; omega) | omega))
  refine bodyPost_ret (v := .agg #[.int .i64 n, .slice a' xs.length cap']) (by simp [results, Try.results18, go_sem, hc]) rfl ⟨a', cap', rfl, hown', ?_⟩
  exact ((hb'.setCell (by first | exact Nat.le_refl _ | (simp only [World.size_alloc, World.size_setCell, World.size_drew]; omega) | omega) _).setCell (by first | exact Nat.le_refl _ | (simp only [World.size_alloc, World.size_setCell, World.size_drew]; omega) | omega) _).setCell (by first | exact Nat.le_refl _ | (simp only [World.size_alloc, World.size_setCell, World.size_drew]; omega) | omega) _

def eqL (xs ys : List Int) : Bool := decide (xs = ys)
theorem eqL_self (xs : List Int) : eqL xs xs = true := by simp [eqL]

theorem eqIntS_any (a b : Option Addr) (xs ys : List Int) (ca cb : Nat) (w : World) (hx : Rd w a xs) (hy : Rd w b ys) :
    Calls Try.prog 26 #[.slice a xs.length ca, .slice b ys.length cb] w fun e w' => e = .returned (.bool (eqL xs ys)) ∧ Below w.heap.size w w' := by
  have hlx := hx.len
  have hly := hy.len
  by_cases hl : xs.length = ys.length
  · have hl' : ((xs.length : Int) != (ys.length : Int)) = false := by simp [hl]
    go_enter Try.func26, Try.ntmps26
    have HL := Lib.hid hl
    clear hl
    go_wp2_with fail
    go_loopw [5] (fun i wr => ∃ k : Nat, k ≤ xs.length ∧ i = .int .i64 k ∧ xs.take k = ys.take k ∧ Below w.heap.size w wr) (fun i _ => xs.length - (intOf i).toNat)
    case atStart => exact ⟨0, Nat.zero_le _, rfl, rfl, Below.refl _ _⟩
    case round =>
      obtain ⟨k, hk, rfl, htk, hb⟩ := hrel
      have HT := Lib.hid htk
      clear htk
      by_cases hlt : k < xs.length
      · have hlt' : k < ys.length := by rw [← HL.out]; exact hlt
        obtain ⟨b1, o1, rfl, hb1, hc1⟩ := (hx.below hb).cell k hlt
        obtain ⟨b2, o2, rfl, hb2, hc2⟩ := (hy.below hb).cell k hlt'
        by_cases he : nth xs k = nth ys k
        · have he' : (nth xs k != nth ys k) = false := by simp [he]
          have HE := Lib.hid he
          clear he
          go_wp2_with fail
          go_quiet (fail)
          go_wp2_with fail
          go_roundw
          case rel =>
            refine ⟨k + 1, by omega, by go_num, ?_, by exact hb.trans (Joins.below_draws _ _ _)⟩
            rw [List.take_succ_eq_append_getElem hlt, List.take_succ_eq_append_getElem hlt', HT.out, ← nth_get, ← nth_get, HE.out]
          case measure => simp [intOf]; omega
        · have he' : (nth xs k != nth ys k) = true := by simp [he]
          have hne : eqL xs ys = false := by
            simp only [eqL, decide_eq_false_iff_not]
            intro e
            subst e
            exact he rfl
          have HN := Lib.hid hne
          clear he hne
          go_wp2_with fail
          go_quiet (fail)
          go_wp2_with fail
          go_ret
          exact ⟨ret_bool HN.out.symm, hb.trans (Joins.below_draws _ _ _)⟩
      · go_wp2_with fail
        go_ret
        refine ⟨ret_bool ?_, hb⟩
        have h1 := HT.out
        rw [List.take_of_length_le (by omega), List.take_of_length_le (by rw [← HL.out]; omega)] at h1
        simp [eqL, h1]
  · have hl' : ((xs.length : Int) != (ys.length : Int)) = true := by simp; omega
    have hne : eqL xs ys = false := by
      simp only [eqL, decide_eq_false_iff_not]
      intro e
      exact hl (by rw [e])
    have HN := Lib.hid hne
    clear hl hne
    go_enter Try.func26, Try.ntmps26
    go_wp2_with fail
    go_ret
    exact ⟨ret_bool HN.out.symm, Below.refl _ _⟩

def eqO (n : Int) (xs : List Int) (m : Int) (ys : List Int) : Bool := decide (n = m) && eqL xs ys
theorem eqO_refl (n : Int) (xs : List Int) : eqO n xs n xs = true := by simp [eqO, eqL]

theorem eqOrder_any (n m : Int) (a b : Option Addr) (xs ys : List Int) (ca cb : Nat) (w : World) (hx : Rd w a xs) (hy : Rd w b ys) :
    Calls Try.prog 21 #[.agg #[.int .i64 n, .slice a xs.length ca], .agg #[.int .i64 m, .slice b ys.length cb]] w fun e w' => e = .returned (.bool (eqO n xs m ys)) ∧ Below w.heap.size w w' := by
  by_cases hn : n = m
  · have hn' : (n != m) = false := by simp [hn]
    have HN := Lib.hid hn
    clear hn
    cases he : eqL xs ys
    all_goals
      have HO : Hid (eqO n xs m ys = eqL xs ys) := by simp [Hid, eqO, HN.out]
      have HE := Lib.hid he
      clear he
      go_enter Try.func21, Try.ntmps21
      go_wp2_with fail
      refine (eqIntS_any _ _ xs ys _ _ _ (hx.below (by repeat (first | exact Below.refl _ _ | assumption | refine Below.alloc ?_ (by first | exact Nat.le_refl _ | (simp only [World.size_alloc, World.size_setCell, World.size_drew]; omega) | omega) _ | refine Below.setCell ?_ (by first | exact Nat.le_refl _ | (simp only [World.size_alloc, World.size_setCell, World.size_drew]; omega) | omega) _ | refine Below.drew ?_))) (hy.below (by repeat (first | exact Below.refl _ _ | assumption | refine Below.alloc ?_ (by first | exact Nat.le_refl _ | (simp only [World.size_alloc, World.size_setCell, World.size_drew]; omega) | omega) _ | refine Below.setCell ?_ (by first | exact Nat.le_refl _ | (simp only [World.size_alloc, World.size_setCell, World.size_drew]; omega) | omega) _ | refine Below.drew ?_)))).mono ?_
      rintro e w1 ⟨rfl, hb⟩
      rw [HE.out]
      obtain ⟨hc, hf⟩ := bcell hb
      go_wp2_with fail
      go_ret
      exact ⟨ret_bool (by rw [HO.out, HE.out]), Below.trans (by repeat (first | exact Below.refl _ _ | assumption | refine Below.alloc ?_ (by first | exact Nat.le_refl _ | (simp only [World.size_alloc, World.size_setCell, World.size_drew]; omega) | omega) _ | refine Below.setCell ?_ (by first | exact Nat.le_refl _ | (simp only [World.size_alloc, World.size_setCell, World.size_drew]; omega) | omega) _ | refine Below.drew ?_)) (hb.mono (by first | (simp only [World.size_alloc, World.size_setCell, World.size_drew]; omega) | omega))⟩
  · have hn' : (n != m) = true := by simp [hn]
    have HO : Hid (eqO n xs m ys = false) := by simp [Hid, eqO, hn]
    clear hn
    go_enter Try.func21, Try.ntmps21
    go_wp2_with fail
    go_ret
    exact ⟨ret_bool HO.out.symm, (by repeat (first | exact Below.refl _ _ | assumption | refine Below.alloc ?_ (by first | exact Nat.le_refl _ | (simp only [World.size_alloc, World.size_setCell, World.size_drew]; omega) | omega) _ | refine Below.setCell ?_ (by first | exact Nat.le_refl _ | (simp only [World.size_alloc, World.size_setCell, World.size_drew]; omega) | omega) _ | refine Below.drew ?_))⟩

theorem wrap64_small (n : Int) (h0 : -9223372036854775808 ≤ n) (h1 : n ≤ 9223372036854775807) : IntKind.i64.wrap n = n := by
  simp only [IntKind.wrap, IntKind.bits, IntKind.signed]
  simp
  omega
theorem i64_wrap (n : Int) : IntKind.i64.wrap n = wrap64 n := IntWalk.i64_left n
theorem ofInt_i64 (a : Nat) (ha : a < 9223372036854775808) : (BitVec.ofInt 64 (a : Int)).toNat = a := by
  simp
  omega
theorem and_nat (a b : Nat) (ha : a < 9223372036854775808) (hb : b < 9223372036854775808) : bits .and .i64 (a : Int) (b : Int) = ((a &&& b : Nat) : Int) := by
  have hx : a &&& b < 2 ^ 63 := Nat.and_lt_two_pow _ (by omega)
  show IntKind.i64.wrap ((BitVec.ofInt 64 (a : Int) &&& BitVec.ofInt 64 (b : Int)).toNat : Int) = _
  rw [BitVec.toNat_and, ofInt_i64 a ha, ofInt_i64 b hb, wrap64_small _ (by omega) (by omega)]
theorem or_nat (a b : Nat) (ha : a < 9223372036854775808) (hb : b < 9223372036854775808) : bits .or .i64 (a : Int) (b : Int) = ((a ||| b : Nat) : Int) := by
  have hx : a ||| b < 2 ^ 63 := Nat.or_lt_two_pow (by omega) (by omega)
  show IntKind.i64.wrap ((BitVec.ofInt 64 (a : Int) ||| BitVec.ofInt 64 (b : Int)).toNat : Int) = _
  rw [BitVec.toNat_or, ofInt_i64 a ha, ofInt_i64 b hb, wrap64_small _ (by omega) (by omega)]
/-- a set without the elements of another one -/
def sub (a b : Nat) : Nat := a ^^^ (a &&& b)
theorem testBit_sub (a b i : Nat) : (sub a b).testBit i = (a.testBit i && !b.testBit i) := by
  simp [sub, Nat.testBit_xor, Nat.testBit_and]
  cases a.testBit i <;> cases b.testBit i <;> rfl
theorem sub_lt {a b n : Nat} (h : a < 2 ^ n) : sub a b < 2 ^ n := by
  unfold sub
  exact Nat.xor_lt_two_pow h (by rw [Nat.and_comm]; exact Nat.and_lt_two_pow _ h)
theorem sub_nat (a b : Nat) (ha : a < 9223372036854775808) (hb : b < 9223372036854775808) : bits .andNot .i64 (a : Int) (b : Int) = ((sub a b : Nat) : Int) := by
  have hs : sub a b < 2 ^ 63 := sub_lt (by omega)
  show IntKind.i64.wrap ((BitVec.ofInt 64 (a : Int) &&& ~~~BitVec.ofInt 64 (b : Int)).toNat : Int) = _
  have e : (BitVec.ofInt 64 (a : Int) &&& ~~~BitVec.ofInt 64 (b : Int)).toNat = sub a b := by
    apply Nat.eq_of_testBit_eq
    intro i
    rw [BitVec.testBit_toNat, BitVec.getLsbD_and, BitVec.getLsbD_not, testBit_sub, ← BitVec.testBit_toNat, ← BitVec.testBit_toNat, ofInt_i64 a ha, ofInt_i64 b hb]
    by_cases hi : i < 64
    · simp [hi]
    · have : a.testBit i = false := Nat.testBit_lt_two_pow (Nat.lt_of_lt_of_le (by omega : a < 2 ^ 64) (Nat.pow_le_pow_right (by omega) (by omega)))
      simp [this]
  rw [e, wrap64_small _ (by omega) (by omega)]
theorem shr_nat (s i : Nat) (hs : s < 9223372036854775808) : (s : Int) / (2 ^ min i 64) = ((s >>> i : Nat) : Int) := by
  rw [Nat.shiftRight_eq_div_pow]
  by_cases h : i ≤ 64
  · rw [Nat.min_eq_left h]
    simp
  · rw [Nat.min_eq_right (by omega)]
    have : 2 ^ 64 ≤ 2 ^ i := Nat.pow_le_pow_right (by omega) (by omega)
    rw [Nat.div_eq_of_lt (by omega)]
    omega
theorem bit_and (s i : Nat) (hs : s < 9223372036854775808) : (bits .and .i64 ((s >>> i : Nat) : Int) 1 == 1) = s.testBit i := by
  have h1 : s >>> i ≤ s := by rw [Nat.shiftRight_eq_div_pow]; exact Nat.div_le_self _ _
  have := and_nat (s >>> i) 1 (by omega) (by omega)
  rw [show ((1 : Nat) : Int) = 1 from rfl] at this
  rw [this, Nat.testBit, Nat.and_one_is_mod, Nat.and_comm, Nat.and_one_is_mod]
  rcases Nat.mod_two_eq_zero_or_one (s >>> i) with h | h <;> simp [h]
theorem bit_mod (s i : Nat) : (((s >>> i : Nat) : Int) % 2 == 1) = s.testBit i := by
  rw [Nat.testBit, Nat.and_comm, Nat.and_one_is_mod]
  rcases Nat.mod_two_eq_zero_or_one (s >>> i) with h | h
  · have h2 : ((s >>> i : Nat) : Int) % 2 = 0 := by omega
    rw [h2, h]; rfl
  · have h2 : ((s >>> i : Nat) : Int) % 2 = 1 := by omega
    rw [h2, h]; rfl
theorem bit_tmod (s i : Nat) : (((s >>> i : Nat) : Int).tmod 2 == 1) = s.testBit i := by
  rw [Int.tmod_eq_emod_of_nonneg (Int.natCast_nonneg _), bit_mod]
/-- is i in the set s? -/
def hasB (s i : Int) : Bool := s.toNat.testBit i.toNat
theorem has_and {s i : Int} (h0 : 0 ≤ s) (h1 : s ≤ 9223372036854775807) (hi : 0 ≤ i) : (bits .and .i64 (s / 2 ^ min i.toNat 64) 1 == 1) = hasB s i := by
  obtain ⟨S, rfl⟩ := Int.eq_ofNat_of_zero_le h0
  rw [shr_nat S _ (by omega), bit_and S _ (by omega)]
  rfl
theorem has_mod {s i : Int} (h0 : 0 ≤ s) (h1 : s ≤ 9223372036854775807) (hi : 0 ≤ i) : ((s / 2 ^ min i.toNat 64).tmod 2 == 1) = hasB s i := by
  obtain ⟨S, rfl⟩ := Int.eq_ofNat_of_zero_le h0
  rw [shr_nat S _ (by omega), bit_tmod S]
  rfl
theorem pow_w {k : Nat} (h : k < 62) : wrap64 (2 ^ k) = ((2 ^ k : Nat) : Int) := by
  have : 2 ^ k ≤ 2 ^ 61 := Nat.pow_le_pow_right (by omega) (by omega)
  rw [show ((2:Int) ^ k) = ((2 ^ k : Nat) : Int) by simp]
  generalize hp : 2 ^ k = p at *
  exact IntWalk.wrap64_in _ ⟨by omega, by omega⟩
theorem or_bit {b k : Nat} (hb : b < 4611686018427387904) (hk : k < 62) : bits .or .i64 (b : Int) (wrap64 (2 ^ k)) = ((b ||| 2 ^ k : Nat) : Int) := by
  rw [pow_w hk]
  have : 2 ^ k ≤ 2 ^ 61 := Nat.pow_le_pow_right (by omega) (by omega)
  exact or_nat _ _ (by omega) (by omega)
theorem or_i {a b : Int} (ha : 0 ≤ a) (ha1 : a < 9223372036854775808) (hb : 0 ≤ b) (hb1 : b < 9223372036854775808) : bits .or .i64 a b = ((a.toNat ||| b.toNat : Nat) : Int) := by
  obtain ⟨A, rfl⟩ := Int.eq_ofNat_of_zero_le ha
  obtain ⟨B, rfl⟩ := Int.eq_ofNat_of_zero_le hb
  exact or_nat A B (by omega) (by omega)
theorem sub_i {a b : Int} (ha : 0 ≤ a) (ha1 : a < 9223372036854775808) (hb : 0 ≤ b) (hb1 : b < 9223372036854775808) : bits .andNot .i64 a b = ((sub a.toNat b.toNat : Nat) : Int) := by
  obtain ⟨A, rfl⟩ := Int.eq_ofNat_of_zero_le ha
  obtain ⟨B, rfl⟩ := Int.eq_ofNat_of_zero_le hb
  exact sub_nat A B (by omega) (by omega)
theorem or_lt {a b n : Nat} (ha : a < 2 ^ n) (hb : b < 2 ^ n) : a ||| b < 2 ^ n := Nat.or_lt_two_pow ha hb
theorem two_lt {k n : Nat} (h : k < n) : 2 ^ k < 2 ^ n := Nat.pow_lt_pow_right (by omega) h
theorem testBit_two (k i : Nat) : (2 ^ k).testBit i = decide (k = i) := Nat.testBit_two_pow

def inB (n lo hi : Int) : Bool := decide (lo ≤ n) && decide (n ≤ hi)
theorem inB_iff {n lo hi : Int} : inB n lo hi = true ↔ lo ≤ n ∧ n ≤ hi := by simp [inB]
theorem inB_no {n lo hi : Int} : inB n lo hi = false ↔ n < lo ∨ hi < n := by
  rw [← Bool.not_eq_true, inB_iff]
  omega

def allB (xs : List Int) (lo hi : Int) : Bool := xs.all (fun x => inB x lo hi)
theorem allB_take (xs : List Int) (lo hi : Int) (k : Nat) (h : k < xs.length) : allB (xs.take (k+1)) lo hi = (allB (xs.take k) lo hi && inB (nth xs k) lo hi) := by
  simp only [allB]
  rw [List.take_succ_eq_append_getElem h, List.all_append]
  simp [nth, h]
theorem allB_false {xs : List Int} {lo hi : Int} {k : Nat} (h : k < xs.length) (h1 : inB (nth xs k) lo hi = false) : allB xs lo hi = false := by
  simp only [allB, List.all_eq_false]
  exact ⟨xs[k], List.getElem_mem h, by simpa [nth, h] using h1⟩
theorem allB_nth {xs : List Int} {lo hi : Int} (h : allB xs lo hi = true) {k : Nat} (hk : k < xs.length) : lo ≤ nth xs k ∧ nth xs k ≤ hi := by
  simp only [allB, List.all_eq_true] at h
  have := inB_iff.1 (h _ (List.getElem_mem hk))
  rwa [← nth_get xs k hk] at this

/-- is it a relation? -/
def relB (n : Int) (xs : List Int) : Bool := inB n 0 10 && decide ((xs.length : Int) = n) && allB xs 0 (2 ^ n.toNat - 1)
theorem relB_iff {n : Int} {xs : List Int} : relB n xs = true ↔ (0 ≤ n ∧ n ≤ 10) ∧ (xs.length : Int) = n ∧ allB xs 0 (2 ^ n.toNat - 1) = true := by
  simp [relB, inB_iff, and_assoc]
theorem pow10 {n : Nat} (h : n ≤ 10) : (1 : Int) ≤ 2 ^ n ∧ (2 : Int) ^ n ≤ 1024 := by
  have h1 : 2 ^ n ≤ 2 ^ 10 := Nat.pow_le_pow_right (by omega) h
  have h2 : 1 ≤ 2 ^ n := Nat.one_le_two_pow
  have h3 : ((2 ^ n : Nat) : Int) = (2 : Int) ^ n := by simp
  omega
theorem full_eq {n : Int} (h0 : 0 ≤ n) (h1 : n ≤ 10) : wrap64 (wrap64 (2 ^ n.toNat) - 1) = 2 ^ n.toNat - 1 := by
  have h2 := pow10 (n := n.toNat) (by omega)
  generalize (2 : Int) ^ n.toNat = p at *
  rw [IntWalk.wrap64_in p ⟨by omega, by omega⟩, IntWalk.wrap64_in _ ⟨by omega, by omega⟩]
structure RelP (n : Int) (xs : List Int) : Prop where
  n0 : 0 ≤ n
  n1 : n ≤ 10
  len : (xs.length : Int) = n
  pos : ∀ k, k < xs.length → 0 ≤ nth xs k
  lt : ∀ k, k < xs.length → nth xs k < 2 ^ xs.length
  small : ∀ k, k < xs.length → nth xs k < 1024
theorem relB_p {n : Int} {xs : List Int} (h : relB n xs = true) : RelP n xs := by
  obtain ⟨⟨h0, h1⟩, h2, h3⟩ := relB_iff.1 h
  have e : n.toNat = xs.length := by omega
  rw [e] at h3
  have hp := pow10 (n := xs.length) (by omega)
  exact ⟨h0, h1, h2, fun k hk => (allB_nth h3 hk).1, fun k hk => by have := (allB_nth h3 hk).2; omega, fun k hk => by have := (allB_nth h3 hk).2; omega⟩

/-- the set of the indices below k of the lists that have i -/
def belowTo (xs : List Int) (i : Int) : Nat → Nat
  | 0 => 0
  | k+1 => if hasB (nth xs k) i then belowTo xs i k ||| 2 ^ k else belowTo xs i k
theorem belowTo_lt (xs : List Int) (i : Int) : ∀ k, belowTo xs i k < 2 ^ k
  | 0 => by simp [belowTo]
  | k+1 => by
    have h := belowTo_lt xs i k
    have h2 : 2 ^ k < 2 ^ (k+1) := two_lt (by omega)
    simp only [belowTo]
    split
    · exact or_lt (by omega) h2
    · omega
theorem belowTo_small (xs : List Int) (i : Int) {k : Nat} (h : k ≤ 10) : belowTo xs i k < 1024 := by
  have h1 := belowTo_lt xs i k
  have h2 : 2 ^ k ≤ 2 ^ 10 := Nat.pow_le_pow_right (by omega) h
  omega
theorem belowTo_bit (xs : List Int) (i : Int) (j : Nat) : ∀ k, (belowTo xs i k).testBit j = (decide (j < k) && hasB (nth xs j) i)
  | 0 => by simp [belowTo]
  | k+1 => by
    have h := belowTo_bit xs i j k
    simp only [belowTo]
    by_cases hjk : j = k
    · subst hjk
      cases hb : hasB (nth xs j) i
      · simp [h]
      · simp [Nat.testBit_or, testBit_two]
    · have e : decide (j < k + 1) = decide (j < k) := by
        rw [decide_eq_decide]; omega
      rw [e, ← h]
      have hkj : ¬ k = j := fun e => hjk e.symm
      cases hb : hasB (nth xs k) i <;> simp [Nat.testBit_or, testBit_two, hkj]

/-- the set of the elements that are indifferent to k -/
def freeN (xs : List Int) (k : Nat) : Nat := sub (2 ^ xs.length - 1) (((nth xs k).toNat ||| belowTo xs k xs.length) ||| 2 ^ k)
theorem free_val {n : Int} {xs : List Int} (hp : RelP n xs) {k : Nat} (hk : k < xs.length) :
    bits .andNot .i64 (wrap64 (wrap64 (2 ^ n.toNat) - 1)) (bits .or .i64 (bits .or .i64 (nth xs k) ((belowTo xs k xs.length : Nat) : Int)) (wrap64 (2 ^ k))) = ((freeN xs k : Nat) : Int) := by
  have hl := hp.len
  have hn := hp.n1
  have h0 := hp.n0
  have e : n.toNat = xs.length := by omega
  have hs := hp.small k hk
  have h1 := hp.pos k hk
  have hb := belowTo_small xs k (k := xs.length) (by omega)
  have hpw := pow10 (n := xs.length) (by omega)
  rw [full_eq h0 hn, e]
  rw [or_i h1 (by omega) (by omega) (by omega)]
  have ho : (nth xs k).toNat ||| (belowTo xs k xs.length) < 2 ^ 10 := or_lt (by omega) (by omega)
  rw [show (((belowTo xs k xs.length : Nat) : Int)).toNat = belowTo xs k xs.length from rfl]
  rw [or_bit (by omega) (by omega)]
  have ho2 : ((nth xs k).toNat ||| (belowTo xs k xs.length)) ||| 2 ^ k < 2 ^ 10 := or_lt ho (two_lt (by omega))
  rw [sub_i (by omega) (by omega) (by omega) (by omega)]
  have e2 : ((2:Int) ^ xs.length - 1).toNat = 2 ^ xs.length - 1 := by
    have : ((2 ^ xs.length : Nat) : Int) = (2 : Int) ^ xs.length := by simp
    omega
  rw [e2]
  rfl
theorem free_val2 {n : Int} {xs : List Int} (hp : RelP n xs) {k : Nat} (hk : k < xs.length) :
    bits .andNot .i64 (2 ^ n.toNat - 1) (bits .or .i64 (bits .or .i64 (nth xs k) ((belowTo xs k xs.length : Nat) : Int)) (wrap64 (2 ^ k))) = ((freeN xs k : Nat) : Int) := by
  rw [← free_val hp hk, full_eq hp.n0 hp.n1]

/-- the elements of a set that are less than k, in order -/
def elemsTo (s : Nat) : Nat → List Int
  | 0 => []
  | k+1 => if s.testBit k then elemsTo s k ++ [(k : Int)] else elemsTo s k
theorem elemsTo_len (s : Nat) : ∀ k, (elemsTo s k).length ≤ k
  | 0 => by simp [elemsTo]
  | k+1 => by
    have := elemsTo_len s k
    simp only [elemsTo]
    split <;> simp <;> omega
theorem mem_elemsTo (s : Nat) (x : Int) : ∀ k, x ∈ elemsTo s k ↔ ∃ i : Nat, i < k ∧ s.testBit i = true ∧ x = i
  | 0 => by simp [elemsTo]
  | k+1 => by
    have ih := mem_elemsTo s x k
    simp only [elemsTo]
    cases hb : s.testBit k
    · rw [if_neg (by simp), ih]
      constructor
      · rintro ⟨i, h1, h2, h3⟩
        exact ⟨i, by omega, h2, h3⟩
      · rintro ⟨i, h1, h2, h3⟩
        have : i ≠ k := fun e => by rw [e, hb] at h2; cases h2
        exact ⟨i, by omega, h2, h3⟩
    · rw [if_pos rfl, List.mem_append, ih]
      constructor
      · rintro (⟨i, h1, h2, h3⟩ | h)
        · exact ⟨i, by omega, h2, h3⟩
        · exact ⟨k, by omega, hb, by simpa using h⟩
      · rintro ⟨i, h1, h2, h3⟩
        by_cases e : i = k
        · exact .inr (by simp [h3, e])
        · exact .inl ⟨i, by omega, h2, h3⟩
theorem elemsTo_more (s k : Nat) (h : s >>> k = 0) : ∀ m, elemsTo s (k + m) = elemsTo s k
  | 0 => rfl
  | m+1 => by
    have hb : s.testBit (k + m) = false := by
      rw [Nat.testBit]
      have : s >>> (k + m) = 0 := by rw [Nat.shiftRight_add, h]; simp
      simp [this]
    show elemsTo s (k + m + 1) = _
    simp only [elemsTo, hb]
    exact elemsTo_more s k h m
/-- all elements of a set below 1024 -/
def elems (s : Nat) : List Int := elemsTo s 10
theorem elems_at {s k : Nat} (h : s >>> k = 0) (hk : k ≤ 10) : elemsTo s k = elems s := by
  have := elemsTo_more s k h (10 - k)
  rw [show k + (10 - k) = 10 from by omega] at this
  exact this.symm
theorem elems_len (s : Nat) : (elems s).length ≤ 10 := elemsTo_len s 10
theorem mem_elems {s : Nat} (hs : s < 1024) {x : Int} : x ∈ elems s ↔ ∃ i : Nat, s.testBit i = true ∧ x = i := by
  rw [elems, mem_elemsTo]
  constructor
  · rintro ⟨i, _, h2, h3⟩
    exact ⟨i, h2, h3⟩
  · rintro ⟨i, h2, h3⟩
    refine ⟨i, ?_, h2, h3⟩
    rcases Nat.lt_or_ge i 10 with h | h
    · exact h
    · have : s < 2 ^ i := Nat.lt_of_lt_of_le hs (Nat.pow_le_pow_right (by omega : 0 < 2) h)
      rw [Nat.testBit_lt_two_pow this] at h2
      cases h2
theorem nth_mem {xs : List Int} {k : Nat} (h : k < xs.length) : nth xs k ∈ xs := by
  rw [nth_get xs k h]; exact List.getElem_mem h
theorem mem_nth {xs : List Int} {x : Int} (h : x ∈ xs) : ∃ k, k < xs.length ∧ nth xs k = x := by
  obtain ⟨k, hk, e⟩ := List.getElem_of_mem h
  exact ⟨k, hk, by rw [nth_get xs k hk, e]⟩

def okAtB (xs : List Int) (k : Nat) : Bool := !hasB (nth xs k) k && (List.range xs.length).all (fun j => !hasB (nth xs k) j || sub (nth xs j).toNat (nth xs k).toNat == 0)
/-- is it an order? -/
def ordB (n : Int) (xs : List Int) : Bool := relB n xs && (List.range xs.length).all (okAtB xs)
theorem okAtB_iff {xs : List Int} {k : Nat} : okAtB xs k = true ↔ hasB (nth xs k) k = false ∧ ∀ j, j < xs.length → hasB (nth xs k) j = true → sub (nth xs j).toNat (nth xs k).toNat = 0 := by
  simp only [okAtB, Bool.and_eq_true, Bool.not_eq_true', List.all_eq_true, List.mem_range, Bool.or_eq_true, beq_iff_eq]
  constructor
  · rintro ⟨h1, h2⟩
    exact ⟨h1, fun j hj hb => (h2 j hj).resolve_left (by simp [hb])⟩
  · rintro ⟨h1, h2⟩
    refine ⟨h1, fun j hj => ?_⟩
    cases hb : hasB (nth xs k) j
    · exact .inl rfl
    · exact .inr (h2 j hj hb)
theorem ordB_iff {n : Int} {xs : List Int} : ordB n xs = true ↔ relB n xs = true ∧ ∀ k, k < xs.length → okAtB xs k = true := by
  simp [ordB]
theorem ordB_no {n : Int} {xs : List Int} {k : Nat} (hk : k < xs.length) (h : okAtB xs k = false) : ordB n xs = false := by
  rw [← Bool.not_eq_true, ordB_iff]
  rintro ⟨_, h2⟩
  rw [h2 k hk] at h
  cases h
theorem okAtB_has {xs : List Int} {k : Nat} (h : hasB (nth xs k) k = true) : okAtB xs k = false := by
  simp [okAtB, h]
theorem okAtB_sub {xs : List Int} {k j : Nat} (hj : j < xs.length) (h : hasB (nth xs k) j = true) (h2 : sub (nth xs j).toNat (nth xs k).toNat ≠ 0) : okAtB xs k = false := by
  rw [← Bool.not_eq_true, okAtB_iff]
  rintro ⟨_, h3⟩
  exact h2 (h3 j hj h)
theorem sub_zero {a b : Nat} : sub a b = 0 ↔ ∀ i, a.testBit i = true → b.testBit i = true := by
  constructor
  · intro h i hi
    have := testBit_sub a b i
    rw [h, hi] at this
    simpa using this.symm
  · intro h
    apply Nat.eq_of_testBit_eq
    intro i
    rw [testBit_sub]
    cases ha : a.testBit i
    · simp
    · simp [h i ha]
theorem has_lt {n : Int} {xs : List Int} (hp : RelP n xs) {k : Nat} (hk : k < xs.length) {j : Nat} (h : hasB (nth xs k) j = true) : j < xs.length := by
  rcases Nat.lt_or_ge j xs.length with h' | h'
  · exact h'
  · have h1 := hp.lt k hk
    have h0 := hp.pos k hk
    have h2 : (nth xs k).toNat < 2 ^ j := by
      have : (2 : Nat) ^ xs.length ≤ 2 ^ j := Nat.pow_le_pow_right (by omega) h'
      have e : ((2 ^ xs.length : Nat) : Int) = (2 : Int) ^ xs.length := by simp
      omega
    simp only [hasB] at h
    rw [Int.toNat_natCast, Nat.testBit_lt_two_pow h2] at h
    cases h

theorem ord_rel {n : Int} {xs : List Int} (h : ordB n xs = true) : RelP n xs := relB_p (ordB_iff.1 h).1

/-- are two elements indifferent to each other? -/
def frB (xs : List Int) (a d : Nat) : Bool := (freeN xs a).testBit d
theorem frB_iff {n : Int} {xs : List Int} (hp : RelP n xs) {a d : Nat} (ha : a < xs.length) : frB xs a d = true ↔ d < xs.length ∧ hasB (nth xs a) d = false ∧ hasB (nth xs d) a = false ∧ d ≠ a := by
  unfold frB freeN
  have fb : ∀ n i : Nat, (2 ^ n - 1).testBit i = decide (i < n) := fun n i => Nat.testBit_two_pow_sub_one n i
  rw [testBit_sub, fb, Nat.testBit_or, Nat.testBit_or, belowTo_bit, testBit_two]
  simp only [Bool.and_eq_true, decide_eq_true_eq, Bool.not_eq_true', Bool.or_eq_false_iff, Bool.and_eq_false_iff, decide_eq_false_iff_not]
  constructor
  · rintro ⟨h1, ⟨h2, h3⟩, h4⟩
    refine ⟨h1, h2, ?_, fun e => h4 e.symm⟩
    rcases h3 with h3 | h3
    · exact absurd h1 h3
    · exact h3
  · rintro ⟨h1, h2, h3, h4⟩
    exact ⟨h1, ⟨h2, .inr h3⟩, fun e => h4 e.symm⟩

/-- the weight of the demand from i to j, if there is one -/
def wtF (xs : List Int) (t : Int) (i j : Nat) : Option Int := if hasB (nth xs i) j then some t else if frB xs i j then some (1 - t) else none
def wtV (xs : List Int) (t : Int) (i j : Nat) : Int := (wtF xs t i j).getD 0
def wtO (xs : List Int) (t : Int) (i j : Nat) : Bool := (wtF xs t i j).isSome
theorem wt_yes {xs : List Int} {t : Int} {i j : Nat} (h : hasB (nth xs i) j = true) : wtF xs t i j = some t := by rw [wtF, if_pos h]
theorem wt_free {xs : List Int} {t : Int} {i j : Nat} (h : hasB (nth xs i) j = false) (h2 : frB xs i j = true) : wtF xs t i j = some (1 - t) := by rw [wtF, if_neg (by simp [h]), if_pos h2]
theorem wt_no {xs : List Int} {t : Int} {i j : Nat} (h : hasB (nth xs i) j = false) (h2 : frB xs i j = false) : wtF xs t i j = none := by rw [wtF, if_neg (by simp [h]), if_neg (by simp [h2])]
theorem wt_bd {xs : List Int} {t : Int} {i j : Nat} {w : Int} (h0 : 1 ≤ t) (h1 : t ≤ 10) (h : wtF xs t i j = some w) : -9 ≤ w ∧ w ≤ 10 := by
  unfold wtF at h
  split at h
  · simp only [Option.some.injEq] at h; omega
  · split at h
    · simp only [Option.some.injEq] at h; omega
    · cases h
theorem wtV_bd {xs : List Int} {t : Int} {i j : Nat} (h0 : 1 ≤ t) (h1 : t ≤ 10) : -9 ≤ wtV xs t i j ∧ wtV xs t i j ≤ 10 := by
  unfold wtV
  cases h : wtF xs t i j with
  | none => simp
  | some w => have := wt_bd h0 h1 h; simpa using this

/-- the list of f 0, .., f (k - 1) -/
def fmap (f : Nat → Int) (k : Nat) : List Int := (List.range k).map f
theorem fmap_len (f : Nat → Int) (k : Nat) : (fmap f k).length = k := by simp [fmap]
theorem fmap_nth (f : Nat → Int) {k i : Nat} (h : i < k) : nth (fmap f k) i = f i := by simp [nth, fmap, h]
theorem fmap_succ (f : Nat → Int) (k : Nat) : fmap f (k+1) = fmap f k ++ [f k] := by simp [fmap, List.range_succ]
/-- one store more into a row that was made -/
theorem fill_step (f : Nat → Int) (m k : Nat) (h : k < m) :
    ((fmap f k ++ List.replicate (m - k) (0:Int)).map (Value.int .i64)).set k (.int .i64 (f k)) = (fmap f (k+1) ++ List.replicate (m - (k+1)) (0:Int)).map (Value.int .i64) := by
  apply List.ext_getElem?
  intro j
  rw [List.getElem?_set]
  by_cases hj : k = j
  · subst hj
    rw [if_pos rfl, if_pos (by simp [fmap_len]; omega), List.getElem?_map, List.getElem?_append_left (by rw [fmap_len]; omega)]
    simp [fmap]
  · simp only [hj, if_false, List.getElem?_map, List.getElem?_append, fmap_len, List.getElem?_replicate]
    by_cases h1 : j < k
    · have h2 : j < k + 1 := by omega
      simp [h1, h2, fmap]
    · have h2 : ¬ j < k + 1 := by omega
      have h3 : j - k < m - k ↔ j - (k+1) < m - (k+1) := by omega
      simp [h1, h2, h3]
theorem fill_end (f : Nat → Int) (m : Nat) : fmap f m ++ List.replicate (m - m) (0:Int) = fmap f m := by simp
/-- the row that a make of m integers has made -/
theorem made_ints {w1 : World} {B : Nat} {v : Value} {m : Nat} (f : Nat → Int) (h : w1.ownsRow B 3 1 v m (madeCells (Value.int .i64 0).cells (m * 1)).toList) :
    w1.ownsRow B 3 1 v m ((fmap f 0 ++ List.replicate (m - 0) (0:Int)).map (Value.int .i64)) := by
  simpa [Value.cells, toList_madeCells_one, fmap] using h

/-- the set of the indices below k of the numbers that are at least z -/
def geTo (xs : List Int) (z : Int) : Nat → Nat
  | 0 => 0
  | j+1 => if z ≤ nth xs j then geTo xs z j ||| 2 ^ j else geTo xs z j
theorem geTo_lt (xs : List Int) (z : Int) : ∀ k, geTo xs z k < 2 ^ k
  | 0 => by simp [geTo]
  | k+1 => by
    have h := geTo_lt xs z k
    have h2 : 2 ^ k < 2 ^ (k+1) := two_lt (by omega)
    simp only [geTo]
    split
    · exact or_lt (by omega) h2
    · omega
theorem geTo_small (xs : List Int) (z : Int) {k : Nat} (h : k ≤ 10) : geTo xs z k < 1024 := by
  have h1 := geTo_lt xs z k
  have h2 : 2 ^ k ≤ 2 ^ 10 := Nat.pow_le_pow_right (by omega) h
  omega
theorem geTo_bit (xs : List Int) (z : Int) (j : Nat) : ∀ k, (geTo xs z k).testBit j = (decide (j < k) && decide (z ≤ nth xs j))
  | 0 => by simp [geTo]
  | k+1 => by
    have h := geTo_bit xs z j k
    simp only [geTo]
    by_cases hjk : j = k
    · subst hjk
      by_cases hb : z ≤ nth xs j
      · simp [Nat.testBit_or, testBit_two, hb]
      · simp [h, hb]
    · have e : decide (j < k + 1) = decide (j < k) := by
        rw [decide_eq_decide]; omega
      rw [e, ← h]
      have hkj : ¬ k = j := fun e => hjk e.symm
      by_cases hb : z ≤ nth xs k <;> simp [Nat.testBit_or, testBit_two, hkj, hb]
theorem geTo_yes {xs : List Int} {z : Int} {j : Nat} (h : z ≤ nth xs j) : geTo xs z (j+1) = geTo xs z j ||| 2 ^ j := by rw [geTo, if_pos h]
theorem geTo_no {xs : List Int} {z : Int} {j : Nat} (h : ¬ z ≤ nth xs j) : geTo xs z (j+1) = geTo xs z j := by rw [geTo, if_neg h]

def thB (t : Int) : Bool := inB t 1 10
/-- may a list be places for a threshold? -/
def okPl (t : Int) (xs : List Int) : Bool := thB t && decide (xs.length ≤ 10) && allB xs 0 1000
theorem okPl_iff {t : Int} {xs : List Int} : okPl t xs = true ↔ thB t = true ∧ xs.length ≤ 10 ∧ allB xs 0 1000 = true := by
  simp [okPl, and_assoc]
def plE (xs : List Int) (t : Int) (i : Nat) : Int := ((geTo xs (nth xs i + t) xs.length : Nat) : Int)
def pls (xs : List Int) (t : Int) (k : Nat) : List Int := fmap (plE xs t) k
theorem pls_len (xs : List Int) (t : Int) (k : Nat) : (pls xs t k).length = k := fmap_len _ _
def plN (t : Int) (xs : List Int) : Int := if okPl t xs then (xs.length : Int) else 0
def plL (t : Int) (xs : List Int) : List Int := if okPl t xs then pls xs t xs.length else []
theorem plL_len (t : Int) (xs : List Int) : (plL t xs).length ≤ 1048576 := by
  unfold plL
  split
  · rename_i h; have := (okPl_iff.1 h).2.1; rw [pls_len]; omega
  · simp

def plOk (n : Int) (xs : List Int) (t : Int) : Bool := ordB n xs && thB t
def plB (n : Int) (xs : List Int) (t : Int) (ps : List Int) : Bool := plOk n xs t && okPl t ps && eqL (pls ps t ps.length) xs
/-- do a pair's places agree with the order? -/
def plX (xs : List Int) (t : Int) (ps : List Int) (i j : Nat) : Bool := hasB (nth xs i) j == decide (nth ps i + t ≤ nth ps j)
theorem pl_same {n : Int} {xs : List Int} (hp : RelP n xs) {t : Int} {ps : List Int} (hl : ps.length = xs.length) :
    eqL (pls ps t ps.length) xs = true ↔ ∀ i, i < xs.length → ∀ j, j < xs.length → plX xs t ps i j = true := by
  have h10 : xs.length ≤ 10 := by have := hp.len; have := hp.n1; omega
  have hbit : ∀ i j, (geTo ps (nth ps i + t) ps.length).testBit j = (decide (j < xs.length) && decide (nth ps i + t ≤ nth ps j)) := fun i j => by rw [geTo_bit, hl]
  constructor
  · intro h i hi j hj
    simp only [eqL, decide_eq_true_eq] at h
    have e : nth (pls ps t ps.length) i = nth xs i := by rw [h]
    rw [show nth (pls ps t ps.length) i = _ from fmap_nth _ (by omega), plE] at e
    have := hbit i j
    simp only [plX, hasB, ← e, Int.toNat_natCast, this, hj, decide_true, Bool.true_and, beq_self_eq_true]
  · intro h
    simp only [eqL, decide_eq_true_eq]
    apply List.ext_getElem (by rw [pls_len, hl])
    intro i h1 h2
    rw [pls_len] at h1
    rw [← nth_get _ _ (by rw [pls_len]; exact h1), ← nth_get _ _ h2, show nth (pls ps t ps.length) i = _ from fmap_nth _ h1, plE]
    have hpos := hp.pos i h2
    obtain ⟨X, hX⟩ := Int.eq_ofNat_of_zero_le hpos
    rw [hX]
    congr 1
    apply Nat.eq_of_testBit_eq
    intro j
    rw [hbit]
    by_cases hj : j < xs.length
    · have h3 := h i h2 j hj
      simp only [plX, hasB, hX, Int.toNat_natCast, beq_iff_eq] at h3
      simp [hj, h3]
    · cases hb : X.testBit j
      · simp [hj]
      · exfalso
        exact hj (has_lt hp h2 (by simp only [hasB, hX, Int.toNat_natCast]; exact hb))
theorem pl_len {xs : List Int} {t : Int} {ps : List Int} (h : eqL (pls ps t ps.length) xs = true) : ps.length = xs.length := by
  simp only [eqL, decide_eq_true_eq] at h
  rw [← h, pls_len]
theorem pl_diff {n : Int} {xs : List Int} (hp : RelP n xs) {t : Int} {ps : List Int} {i j : Nat} (hi : i < xs.length) (hj : j < xs.length) (h : plX xs t ps i j = false) : eqL (pls ps t ps.length) xs = false := by
  rw [← Bool.not_eq_true]
  intro h2
  rw [(pl_same hp (pl_len h2)).1 h2 i hi j hj] at h
  cases h

/-- the least number of a list that is not empty -/
def mnTo (zs : List Int) : Nat → Int
  | 0 => nth zs 0
  | k+1 => min (mnTo zs k) (nth zs k)
theorem sliceMin_any (a : Option Addr) (zs : List Int) (cap : Nat) (w : World) (hx : Rd w a zs) (h : 0 < zs.length) :
    Calls Try.prog 84 #[.slice a zs.length cap] w fun e w' => e = .returned (.int .i64 (mnTo zs zs.length)) ∧ Below w.heap.size w w' := by
  have hlen := hx.len
  obtain ⟨b, off, rfl, hbl, hc0⟩ := hx.cell 0 h
  rw [Nat.add_zero] at hc0
  have H1 : Hid (mnTo zs 1 = nth zs 0) := by simp [Hid, mnTo]
  have hz1 : ¬ (zs.length : Int) < 1 := by omega
  have hz2 : (0 : Int) < (zs.length : Int) := by omega
  go_enter Try.func84, Try.ntmps84
  go_wp2_with fail
  go_loopw [3, 4] (fun m i wr => ∃ k : Nat, 1 ≤ k ∧ k ≤ zs.length ∧ i = .int .i64 k ∧ m = .int .i64 (mnTo zs k) ∧ Below w.heap.size w wr) (fun _ i _ => zs.length - (intOf i).toNat)
  case atStart => exact ⟨1, by omega, by omega, rfl, by rw [H1.out], Below.refl _ _⟩
  case round =>
    obtain ⟨k, hk1, hk, rfl, rfl, hb⟩ := hrel
    by_cases hlt : k < zs.length
    · obtain ⟨b2, off2, e2, hbl2, hc⟩ := (hx.below hb).cell k hlt
      simp only [Option.some.injEq, Addr.mk.injEq, and_true] at e2
      obtain ⟨rfl, rfl⟩ := e2
      have HM : Hid (mnTo zs (k+1) = min (mnTo zs k) (nth zs k)) := rfl
      go_wp2_with fail
      go_roundw
      case rel => exact ⟨k + 1, by omega, by omega, by go_num, val_int (by rw [HM.out]; split <;> omega), hb⟩
      case measure => simp [intOf]; omega
    · obtain rfl : k = zs.length := by omega
      go_wp2_with fail
      go_ret
      exact ⟨rfl, hb⟩

/-- by how much a demand is exceeded -/
def skV (xs : List Int) (t : Int) (ps : List Int) (i j : Nat) : Int := nth ps j - nth ps i - wtV xs t i j
def skRow (xs : List Int) (t : Int) (ps : List Int) (i : Nat) : Nat → List Int
  | 0 => []
  | j+1 => if wtO xs t i j = true then skRow xs t ps i j ++ [skV xs t ps i j] else skRow xs t ps i j
def skAll (xs : List Int) (t : Int) (ps : List Int) : Nat → List Int
  | 0 => []
  | i+1 => skAll xs t ps i ++ skRow xs t ps i xs.length
/-- the list ahead of the pair i, j -/
def skAt (xs : List Int) (t : Int) (ps : List Int) (i j : Nat) : List Int := skAll xs t ps i ++ skRow xs t ps i j
theorem skAt_0 (xs : List Int) (t : Int) (ps : List Int) (i : Nat) : skAt xs t ps i 0 = skAll xs t ps i := by simp [skAt, skRow]
theorem skAt_end (xs : List Int) (t : Int) (ps : List Int) (i : Nat) : skAt xs t ps i xs.length = skAll xs t ps (i+1) := rfl
theorem skAt_yes {xs : List Int} {t : Int} {ps : List Int} {i j : Nat} (h : wtO xs t i j = true) : skAt xs t ps i (j+1) = skAt xs t ps i j ++ [skV xs t ps i j] := by
  simp [skAt, skRow, h]
theorem skAt_no {xs : List Int} {t : Int} {ps : List Int} {i j : Nat} (h : wtO xs t i j = false) : skAt xs t ps i (j+1) = skAt xs t ps i j := by
  simp [skAt, skRow, h]
theorem skRow_len (xs : List Int) (t : Int) (ps : List Int) (i : Nat) : ∀ j, (skRow xs t ps i j).length ≤ j
  | 0 => by simp [skRow]
  | j+1 => by
    have := skRow_len xs t ps i j
    simp only [skRow]
    split <;> simp <;> omega
theorem skAll_len (xs : List Int) (t : Int) (ps : List Int) : ∀ i, (skAll xs t ps i).length ≤ i * xs.length
  | 0 => by simp [skAll]
  | i+1 => by
    have h1 := skAll_len xs t ps i
    have h2 := skRow_len xs t ps i xs.length
    simp only [skAll, List.length_append]
    rw [Nat.succ_mul]; omega
theorem skAt_len {xs : List Int} {t : Int} {ps : List Int} {i j : Nat} (h10 : xs.length ≤ 10) (hi : i ≤ xs.length) (hj : j ≤ xs.length) : (skAt xs t ps i j).length ≤ 110 := by
  have h1 := skAll_len xs t ps i
  have h2 := skRow_len xs t ps i j
  have h3 : i * xs.length ≤ 100 := Nat.mul_le_mul (by omega : i ≤ 10) h10
  unfold skAt
  rw [List.length_append]; omega
/-- the least one, or 5000 -/
def mn5 (zs : List Int) : Int := zs.foldl min 5000
theorem mn5_app (zs : List Int) (x : Int) : mn5 (zs ++ [x]) = min (mn5 zs) x := by simp [mn5]
theorem skV_bd {xs : List Int} {t : Int} {ps : List Int} (t0 : 1 ≤ t) (t1 : t ≤ 10) (h : ∀ k, k < xs.length → 0 ≤ nth ps k ∧ nth ps k ≤ 1000) {i j : Nat} (hi : i < xs.length) (hj : j < xs.length) : -1010 ≤ skV xs t ps i j ∧ skV xs t ps i j ≤ 1009 := by
  have h1 := h i hi
  have h2 := h j hj
  have h3 := wtV_bd (xs := xs) (i := i) (j := j) t0 t1
  unfold skV
  omega
theorem foldl_min_le (zs : List Int) : ∀ a : Int, zs.foldl min a ≤ a := by
  induction zs with
  | nil => intro a; simp
  | cons z zs ih => intro a; simp only [List.foldl_cons]; have := ih (min a z); omega
theorem foldl_min_mem (zs : List Int) : ∀ (a z : Int), z ∈ zs → zs.foldl min a ≤ z := by
  induction zs with
  | nil => intro a z h; simp at h
  | cons y zs ih =>
    intro a z h
    simp only [List.foldl_cons]
    rcases List.mem_cons.1 h with rfl | h
    · have := foldl_min_le zs (min a z); omega
    · exact ih _ _ h
theorem foldl_min_lb (zs : List Int) (c : Int) : ∀ a : Int, c ≤ a → (∀ z, z ∈ zs → c ≤ z) → c ≤ zs.foldl min a := by
  induction zs with
  | nil => intro a h _; simpa using h
  | cons y zs ih =>
    intro a h h2
    simp only [List.foldl_cons]
    have := h2 y (by simp)
    exact ih _ (by omega) (fun z hz => h2 z (by simp [hz]))
theorem skRow_mem {xs : List Int} {t : Int} {ps : List Int} {i : Nat} {x : Int} : ∀ {j}, x ∈ skRow xs t ps i j → ∃ m, m < j ∧ x = skV xs t ps i m
  | 0, h => by simp [skRow] at h
  | j+1, h => by
    simp only [skRow] at h
    split at h
    · rw [List.mem_append, List.mem_singleton] at h
      rcases h with h | h
      · obtain ⟨m, hm, e⟩ := skRow_mem h
        exact ⟨m, by omega, e⟩
      · exact ⟨j, by omega, h⟩
    · obtain ⟨m, hm, e⟩ := skRow_mem h
      exact ⟨m, by omega, e⟩
theorem skAll_mem {xs : List Int} {t : Int} {ps : List Int} {x : Int} : ∀ {i}, x ∈ skAll xs t ps i → ∃ k m, k < i ∧ m < xs.length ∧ x = skV xs t ps k m
  | 0, h => by simp [skAll] at h
  | i+1, h => by
    simp only [skAll, List.mem_append] at h
    rcases h with h | h
    · obtain ⟨k, m, hk, hm, e⟩ := skAll_mem h
      exact ⟨k, m, by omega, hm, e⟩
    · obtain ⟨m, hm, e⟩ := skRow_mem h
      exact ⟨i, m, by omega, hm, e⟩
theorem mnTo_fold (zs : List Int) : ∀ k, k ≤ zs.length → mnTo zs k = (zs.take k).foldl min (nth zs 0)
  | 0, _ => by simp [mnTo]
  | k+1, h => by
    have ih := mnTo_fold zs k (by omega)
    rw [List.take_succ_eq_append_getElem (by omega), List.foldl_append, ← ih]
    simp only [mnTo, List.foldl_cons, List.foldl_nil, nth_get zs k (by omega)]
theorem mn_eq {zs : List Int} (h0 : 0 < zs.length) (h : ∀ z, z ∈ zs → z ≤ 5000) : mnTo zs zs.length = mn5 zs := by
  rw [mnTo_fold zs _ (Nat.le_refl _), List.take_of_length_le (Nat.le_refl _)]
  have hm : nth zs 0 ∈ zs := by rw [nth_get zs 0 h0]; exact List.getElem_mem h0
  apply Int.le_antisymm
  · exact foldl_min_lb zs _ _ (Int.le_trans (foldl_min_mem zs _ _ hm) (h _ hm)) (fun z hz => foldl_min_mem zs _ _ hz)
  · exact foldl_min_lb zs _ _ (foldl_min_mem zs _ _ hm) (fun z hz => foldl_min_mem zs _ _ hz)
def skO (n : Int) (xs : List Int) (t : Int) (ps : List Int) : Bool := plB n xs t ps && decide (0 < (skAll xs t ps xs.length).length)
def skR (n : Int) (xs : List Int) (t : Int) (ps : List Int) : Int := if skO n xs t ps then mn5 (skAll xs t ps xs.length) else 0
theorem mn5_none {zs : List Int} (h : ∀ z, z ∈ zs → z ≤ 1009) : (mn5 zs = 5000) ↔ zs.length = 0 := by
  constructor
  · intro h5
    rcases Nat.eq_zero_or_pos zs.length with h0 | h0
    · exact h0
    · exfalso
      have hm : zs[0] ∈ zs := List.getElem_mem h0
      have h1 := foldl_min_mem zs 5000 _ hm
      have h2 := h _ hm
      unfold mn5 at h5
      omega
  · intro h0
    rw [List.length_eq_zero_iff.1 h0]; rfl
theorem mn5_bd {zs : List Int} (h : ∀ z, z ∈ zs → -1010 ≤ z) : -1010 ≤ mn5 zs ∧ mn5 zs ≤ 5000 := ⟨foldl_min_lb zs _ _ (by omega) h, foldl_min_le zs _⟩
theorem sk_bd {xs : List Int} {t : Int} {ps : List Int} (t0 : 1 ≤ t) (t1 : t ≤ 10) (h : ∀ k, k < xs.length → 0 ≤ nth ps k ∧ nth ps k ≤ 1000) {i : Nat} (hi : i ≤ xs.length) : ∀ z, z ∈ skAll xs t ps i → -1010 ≤ z ∧ z ≤ 1009 := fun z hz => by
  obtain ⟨k, m, hk, hm, rfl⟩ := skAll_mem hz
  exact skV_bd t0 t1 h (by omega) hm

theorem l1Least_any (x y : Int) (w : World) :
    Calls Try.prog 83 #[.int .i64 x, .int .i64 y] w fun e w' => e = .returned (.int .i64 (min x y)) ∧ w = w' := by
  by_cases h : x < y
  · have H : Hid (min x y = x) := by rw [Hid]; omega
    go_enter Try.func83, Try.ntmps83
    go_wp2
    go_ret
    exact ⟨ret_int H.out.symm, rfl⟩
  · have H : Hid (min x y = y) := by rw [Hid]; omega
    go_enter Try.func83, Try.ntmps83
    go_wp2
    go_ret
    exact ⟨ret_int H.out.symm, rfl⟩

theorem l1In_any (n lo hi : Int) (w : World) :
    Calls Try.prog 66 #[.int .i64 n, .int .i64 lo, .int .i64 hi] w fun e w' => e = .returned (.bool (inB n lo hi)) ∧ w = w' := by
  go_enter Try.func66, Try.ntmps66
  go_wp2
  all_goals (go_ret; exact ⟨ret_bool (by simp [inB]; try omega), rfl⟩)
theorem l1In_is {n lo hi : Int} {b : Bool} (h : inB n lo hi = b) (w : World) (m : Nat) :
    Calls Try.prog 66 #[.int .i64 n, .int .i64 lo, .int .i64 hi] (w.drewN m) fun e w' => e = .returned (.bool b) ∧ ∃ k, w' = w.drewN k :=
  Calls.quiet_of_same ((l1In_any n lo hi (w.drewN m)).mono (fun e w' hh => ⟨by rw [← h]; exact hh.1, hh.2.symm⟩))

theorem l1All_any (a : Option Addr) (xs : List Int) (cap : Nat) (lo hi : Int) (w : World) (hx : Rd w a xs) :
    Calls Try.prog 103 #[.slice a xs.length cap, .int .i64 lo, .int .i64 hi] w fun e w' => e = .returned (.bool (allB xs lo hi)) ∧ w = w' := by
  have hlen := hx.len
  go_enter Try.func103, Try.ntmps103
  go_wp2_with fail
  go_loop [11] (fun i => ∃ k : Nat, k ≤ xs.length ∧ i = .int .i64 k ∧ allB (xs.take k) lo hi = true) (fun i => xs.length - (intOf i).toNat)
  case atStart => exact ⟨0, Nat.zero_le _, rfl, rfl⟩
  case round =>
    obtain ⟨k, hk, rfl, hall⟩ := hrel
    by_cases hlt : k < xs.length
    · obtain ⟨b, off, rfl, hbl, hc⟩ := hx.cell k hlt
      cases hin : inB (nth xs k) lo hi
      · have hf := Lib.hid (allB_false hlt hin)
        go_wp2_with (go_at_call 66; refine (l1In_any _ _ _ _).mono ?_; rintro e w' ⟨rfl, rfl⟩)
        go_ret
        exact ⟨ret_bool hf.out.symm, rfl⟩
      · go_wp2_with (go_at_call 66; refine (l1In_any _ _ _ _).mono ?_; rintro e w' ⟨rfl, rfl⟩)
        go_round
        case rel => exact ⟨k + 1, by omega, by go_num, by rw [allB_take _ _ _ _ hlt, hall, hin]; rfl⟩
        case measure => simp [intOf]; omega
    · go_wp2_with fail
      go_ret
      exact ⟨ret_bool (by rw [← hall, List.take_of_length_le (by omega)]), rfl⟩
theorem l1All_is {a : Option Addr} {xs : List Int} {cap : Nat} {lo hi : Int} {b : Bool} {w : World} (hx : Rd w a xs) (h : allB xs lo hi = b) (m : Nat) :
    Calls Try.prog 103 #[.slice a xs.length cap, .int .i64 lo, .int .i64 hi] (w.drewN m) fun e w' => e = .returned (.bool b) ∧ ∃ k, w' = w.drewN k :=
  Calls.quiet_of_same ((l1All_any a xs cap lo hi (w.drewN m) (hx.below (Joins.below_draws _ _ _))).mono (fun e w' hh => ⟨by rw [← h]; exact hh.1, hh.2.symm⟩))

theorem orHas_any (s i : Int) (w : World) (h0 : 0 ≤ s) (h1 : s ≤ 9223372036854775807) (hi : 0 ≤ i) :
    Calls Try.prog 88 #[.int .i64 s, .int .i64 i] w fun e w' => e = .returned (.bool (hasB s i)) ∧ w = w' := by
  have H := Lib.hid (has_mod h0 h1 hi)
  go_enter Try.func88, Try.ntmps88
  go_wp2
  go_ret
  exact ⟨ret_bool H.out, rfl⟩

set_option maxRecDepth 100000 in
theorem sePlaces_any (n : Int) (a : Option Addr) (xs : List Int) (cap : Nat) (t : Int) (a1 : Option Addr) (ps : List Int) (cap1 : Nat) (w : World) (hx : Rd w a xs) (hp : RelP n xs) (hT : thB t = true) (hy : Rd w a1 ps) :
    Calls Try.prog 74 #[.agg #[.int .i64 n, .slice a xs.length cap], .int .i64 t, .slice a1 ps.length cap1] w fun e w' => e = .returned (.bool (okPl t ps && eqL (pls ps t ps.length) xs)) ∧ Below w.heap.size w w' := by
  have hl10 : xs.length ≤ 10 := by have := hp.len; have := hp.n1; omega
  have hlen := hy.len
  obtain rfl : n = (xs.length : Int) := hp.len.symm
  have hx1 := hx.alloc (.cells #[.int .i64 (xs.length : Int), .slice a xs.length cap] 32)
  have hy1 := hy.alloc (.cells #[.int .i64 (xs.length : Int), .slice a xs.length cap] 32)
  have ⟨t0, t1⟩ := inB_iff.1 hT
  by_cases hl : ps.length = xs.length
  · have hl' : ((ps.length : Int) != (xs.length : Int)) = false := by simp [hl]
    cases h3 : allB ps 0 1000
    · have HN : Hid ((okPl t ps && eqL (pls ps t ps.length) xs) = false) := by simp [Hid, okPl, h3]
      have HA := Lib.hid h3
      clear hl h3 hT
      go_enter Try.func74, Try.ntmps74
      go_wp2_with fail
      refine (l1All_any _ _ _ _ _ _ hy1).mono ?_
      rw [HA.out]
      rintro e w' ⟨rfl, rfl⟩
      go_wp2_with fail
      go_ret
      exact ⟨ret_bool HN.out.symm, (by repeat (first | exact Below.refl _ _ | assumption | refine Below.alloc ?_ (by first | exact Nat.le_refl _ | (simp only [World.size_alloc, World.size_setCell, World.size_drew]; omega) | omega) _ | refine Below.setCell ?_ (by first | exact Nat.le_refl _ | (simp only [World.size_alloc, World.size_setCell, World.size_drew]; omega) | omega) _ | refine Below.drew ?_))⟩
    · have HN : Hid ((okPl t ps && eqL (pls ps t ps.length) xs) = eqL (pls ps t ps.length) xs) := by
        have : ps.length ≤ 10 := by omega
        simp [Hid, okPl, h3, hT, this]
      have HBD := Lib.hid (fun k (hk : k < ps.length) => allB_nth h3 hk)
      have HL := Lib.hid hl
      have HA := Lib.hid h3
      clear hl h3 hT
      go_enter Try.func74, Try.ntmps74
      go_wp2_with fail
      refine (l1All_any _ _ _ _ _ _ hy1).mono ?_
      rw [HA.out]
      rintro e w' ⟨rfl, rfl⟩
      have hB0 : Box2 (w.alloc (.cells #[.int .i64 (xs.length : Int), .slice a xs.length cap] 32)) w.heap.size (.int .i64 (xs.length : Int)) (.slice a xs.length cap) := Box2.new w _ _ _
      clear hx1 hy1
      go_wp2_with fail
      go_loopw [23] (fun i wr => ∃ k : Nat, k ≤ ps.length ∧ i = .int .i64 k ∧ (∀ c, c < k → ∀ j, j < xs.length → plX xs t ps c j = true) ∧ Below w.heap.size w wr ∧ Box2 wr w.heap.size (.int .i64 (xs.length : Int)) (.slice a xs.length cap)) (fun i _ => ps.length - (intOf i).toNat)
      case atStart => exact ⟨0, Nat.zero_le _, rfl, fun c hc => by omega, (by repeat (first | exact Below.refl _ _ | assumption | refine Below.alloc ?_ (by first | exact Nat.le_refl _ | (simp only [World.size_alloc, World.size_setCell, World.size_drew]; omega) | omega) _ | refine Below.setCell ?_ (by first | exact Nat.le_refl _ | (simp only [World.size_alloc, World.size_setCell, World.size_drew]; omega) | omega) _ | refine Below.drew ?_)), hB0⟩
      case round =>
        obtain ⟨k, hk, rfl, hall, hb, hB⟩ := hrel
        have HC := Lib.hid hall
        clear hall
        by_cases hlt : k < ps.length
        · obtain ⟨b, off, rfl, hbl, hc1⟩ := (hy.below hb).cell k hlt
          have ⟨v0, v1⟩ := HBD.out k hlt
          have hkx : k < xs.length := by rw [← HL.out]; exact hlt
          have pk := hp.pos k hkx
          have sk : nth xs k ≤ 9223372036854775807 := by have := hp.small k hkx; omega
          have k0 : (0 : Int) ≤ (k : Int) := by omega
          have k1 : (k : Int) < (xs.length : Int) := by omega
          go_wp2_with fail
          go_loopw [30] (fun i' wr => ∃ j : Nat, j ≤ ps.length ∧ i' = .int .i64 j ∧ (∀ d, d < j → plX xs t ps k d = true) ∧ Below w.heap.size w wr ∧ Box2 wr w.heap.size (.int .i64 (xs.length : Int)) (.slice a xs.length cap)) (fun i' _ => ps.length - (intOf i').toNat)
          case atStart => exact ⟨0, Nat.zero_le _, rfl, fun d hd => by omega, hb, hB⟩
          case round =>
            obtain ⟨j, hj, rfl, hall2, hb2, hB2⟩ := hrel
            have ⟨zr2, cr2, dr2⟩ := hB2
            have HC2 := Lib.hid hall2
            clear hall2
            by_cases hjl : j < ps.length
            · obtain ⟨b2, off2, e2, hbl2, hd1⟩ := (hy.below hb2).cell j hjl
              simp only [Option.some.injEq, Addr.mk.injEq, and_true] at e2
              obtain ⟨rfl, rfl⟩ := e2
              obtain ⟨b3, off3, rfl, hbl3, hck⟩ := (hx.below hb2).cell k hkx
              have hjx : j < xs.length := by rw [← HL.out]; exact hjl
              have j0 : (0 : Int) ≤ (j : Int) := by omega
              have ⟨u0, u1⟩ := HBD.out j hjl
              cases hh : hasB (nth xs k) j
              · have HH := Lib.hid hh
                by_cases hle : nth ps k + t ≤ nth ps j
                · have HF := Lib.hid (pl_diff hp hkx hjx (show plX xs t ps k j = false by simp [plX, hh, hle]))
                  clear hh
                  go_wp2_with fail
                  refine (orHas_any _ _ _ pk sk j0).mono ?_
                  rw [HH.out]
                  rintro e w' ⟨rfl, rfl⟩
                  go_wp2_with fail
                  go_ret
                  exact ⟨ret_bool (by rw [HN.out, HF.out]), hb2⟩
                · have HF := Lib.hid (show plX xs t ps k j = true by simp [plX, hh, hle])
                  clear hh
                  go_wp2_with fail
                  refine (orHas_any _ _ _ pk sk j0).mono ?_
                  rw [HH.out]
                  rintro e w' ⟨rfl, rfl⟩
                  go_wp2_with fail
                  go_roundw
                  case rel =>
                    refine ⟨j + 1, by omega, by go_num, fun d hd => ?_, hb2, hB2⟩
                    by_cases e : d = j
                    · rw [e]; exact HF.out
                    · exact HC2.out d (by omega)
                  case measure => simp [intOf]; omega
              · have HH := Lib.hid hh
                by_cases hle : nth ps k + t ≤ nth ps j
                · have HF := Lib.hid (show plX xs t ps k j = true by simp [plX, hh, hle])
                  clear hh
                  go_wp2_with fail
                  refine (orHas_any _ _ _ pk sk j0).mono ?_
                  rw [HH.out]
                  rintro e w' ⟨rfl, rfl⟩
                  go_wp2_with fail
                  go_roundw
                  case rel =>
                    refine ⟨j + 1, by omega, by go_num, fun d hd => ?_, hb2, hB2⟩
                    by_cases e : d = j
                    · rw [e]; exact HF.out
                    · exact HC2.out d (by omega)
                  case measure => simp [intOf]; omega
                · have HF := Lib.hid (pl_diff hp hkx hjx (show plX xs t ps k j = false by simp [plX, hh, hle]))
                  have hd : decide (nth ps k + t ≤ nth ps j) = false := by simp; omega
                  clear hh
                  go_wp2_with fail
                  refine (orHas_any _ _ _ pk sk j0).mono ?_
                  rw [HH.out]
                  rintro e w' ⟨rfl, rfl⟩
                  go_wp2_with fail
                  all_goals (try (exfalso; omega))
                  go_ret
                  exact ⟨ret_bool (by rw [HN.out, HF.out]), hb2⟩
            · obtain rfl : j = ps.length := by omega
              have HF : Hid (∀ c, c < k + 1 → ∀ j, j < xs.length → plX xs t ps c j = true) := fun c hc j hj2 => by
                by_cases e : c = k
                · rw [e]; exact HC2.out j (by rw [HL.out]; exact hj2)
                · exact HC.out c (by omega) j hj2
              go_wp2_with fail
              go_roundw
              case rel => exact ⟨k + 1, by omega, by go_num, HF.out, hb2, hB2⟩
              case measure => simp [intOf]; omega
        · obtain rfl : k = ps.length := by omega
          have HF := Lib.hid ((pl_same (t := t) hp HL.out).2 (fun i hi => HC.out i (by rw [HL.out]; exact hi)))
          go_wp2_with fail
          go_ret
          exact ⟨ret_bool (by rw [HN.out, HF.out]), hb⟩
  · have hl' : ((ps.length : Int) != (xs.length : Int)) = true := by simp; omega
    have HN : Hid ((okPl t ps && eqL (pls ps t ps.length) xs) = false) := by
      cases h : eqL (pls ps t ps.length) xs
      · simp [Hid]
      · exact absurd (pl_len h) hl
    clear hl hT
    go_enter Try.func74, Try.ntmps74
    go_wp2_with fail
    go_ret
    exact ⟨ret_bool HN.out.symm, (by repeat (first | exact Below.refl _ _ | assumption | refine Below.alloc ?_ (by first | exact Nat.le_refl _ | (simp only [World.size_alloc, World.size_setCell, World.size_drew]; omega) | omega) _ | refine Below.setCell ?_ (by first | exact Nat.le_refl _ | (simp only [World.size_alloc, World.size_setCell, World.size_drew]; omega) | omega) _ | refine Below.drew ?_))⟩

theorem seThreshold_any (t : Int) (w : World) :
    Calls Try.prog 73 #[.int .i64 t] w fun e w' => e = .returned (.bool (thB t)) ∧ w = w' := by
  go_enter Try.func73, Try.ntmps73
  go_wp2_with fail
  refine (l1In_any _ _ _ _).mono ?_
  rintro e w' ⟨rfl, rfl⟩
  go_wp2_with fail
  go_ret
  exact ⟨rfl, rfl⟩

theorem orList_any (s : Int) (w : World) (h0 : 0 ≤ s) (h1 : s < 1024) :
    Calls Try.prog 89 #[.int .i64 s] w fun e w' => ∃ a cap, e = .returned (.slice a (elems s.toNat).length cap) ∧ OwnI w' w.heap.size (.slice a (elems s.toNat).length cap) (elems s.toNat) ∧ Below w.heap.size w w' := by
  obtain ⟨S, rfl⟩ := Int.eq_ofNat_of_zero_le h0
  have hS : S < 1024 := by omega
  obtain ⟨i0, hi, hz0, hz1, hz2⟩ := info_parts infoInt
  have hsh : ∀ k : Nat, (S : Int) / 2 ^ min k 64 = ((S >>> k : Nat) : Int) := fun k => shr_nat S k (by omega)
  have HSH := Lib.hid hsh
  clear hsh
  go_enter Try.func89, Try.ntmps89
  go_wp2_with fail
  go_loopw [3, 4] (fun v i wr => ∃ k : Nat, k ≤ 10 ∧ i = .int .i64 k ∧ wr.ownsRow w.heap.size 3 1 v (elemsTo S k).length ((elemsTo S k).map (Value.int .i64)) ∧ Below w.heap.size w wr) (fun _ i _ => 10 - (intOf i).toNat)
  case atStart => exact ⟨0, by omega, rfl, by simpa [elemsTo] using World.ownsRow_nil _ _ _ _, Below.refl _ _⟩
  case round =>
    obtain ⟨k, hk, rfl, hown, hb⟩ := hrel
    have hln := elemsTo_len S k
    have hsz := hb.size
    have hq := HSH.out k
    rw [show min k 64 = k from by omega] at hq
    by_cases hz : S >>> k = 0
    · have ht : ¬ (0 : Int) < (S : Int) / 2 ^ k := by rw [hq, hz]; omega
      have HZ := Lib.hid hz
      clear hq hz
      go_wp2_with fail
      go_ret
      have e := elems_at HZ.out hk
      rw [e] at hown
      obtain ⟨a, cap, rfl⟩ := OwnI.form hown
      exact ⟨a, cap, rfl, hown, hb⟩
    · have ht : (0 : Int) < (S : Int) / 2 ^ k := by rw [hq]; exact Int.natCast_pos.2 (Nat.pos_of_ne_zero hz)
      have hk9 : k < 10 := by
        rcases Nat.lt_or_ge k 10 with h | h
        · exact h
        · obtain rfl : k = 10 := by omega
          exact absurd (by rw [Nat.shiftRight_eq_div_pow]; exact Nat.div_eq_of_lt (by omega)) hz
      clear hq hz
      have hhas : hasB (S : Int) (k : Int) = S.testBit k := rfl
      cases hin : S.testBit k
      · rw [hin] at hhas
        go_wp2_with (go_at_call 88; refine (orHas_any _ _ _ (by omega) (by omega) (by omega)).mono ?_; rintro e w' ⟨rfl, rfl⟩)
        go_roundw
        case rel => exact ⟨k + 1, by omega, by go_num, by simpa [elemsTo, hin] using hown, hb⟩
        case measure => simp [intOf]; omega
      · rw [hin] at hhas
        go_wp2_with (first | (go_at_call 88; refine (orHas_any _ _ _ (by omega) (by omega) (by omega)).mono ?_; rintro e w' ⟨rfl, rfl⟩) | (at_builtin; refine wpList_append_own _ rfl _ _ 23 rfl w.heap.size 3 i0 (.int .i64 0) 1 8 Try.underlying23 hi hz0 hz1 hz2 rfl (by decide) _ _ _ rfl (hown.alloc _) ⟨wr.heap.size, 0, none⟩ 1 1 [.int .i64 k] rfl rfl ?c1 ?c2 ?c3 ?c4 ?c5 ?_))
        case c1 =>
          intro j u hj
          match j, hj with
          | 0, hj => simp at hj; subst hj; simp [Addr.add]
        case c2 => intro u hu; simp at hu; subst hu; rfl
        case c3 => unfold maxLen; omega
        case c4 => omega
        case c5 => simp; omega
        · intro v' w1 hown' hgrow _
          have hlt := World.ownsRow.lt hown
          have hb1 : Below w.heap.size w w1 := (hb.alloc hsz _).grown hgrow (by simp; omega) (fun b e => (hlt b e).1)
          have HO := Lib.hid hown'
          clear hown' hgrow hown
          go_wp2_with fail
          go_roundw
          case rel => exact ⟨k + 1, by omega, by go_num, by simpa [elemsTo, hin] using HO.out, hb1⟩
          case measure => simp [intOf]; omega

theorem orRelation_any (n : Int) (a : Option Addr) (xs : List Int) (cap : Nat) (w : World) (hx : Rd w a xs) :
    Calls Try.prog 87 #[.agg #[.int .i64 n, .slice a xs.length cap]] w fun e w' => e = .returned (.bool (relB n xs)) ∧ Below w.heap.size w w' := by
  have hx1 := hx.alloc (.cells #[.int .i64 n, .slice a xs.length cap] 32)
  cases h1 : inB n 0 10
  · have HR : Hid (relB n xs = false) := by simp [Hid, relB, h1]
    go_enter Try.func87, Try.ntmps87
    go_wp2_with fail
    go_quiet ((go_at_call 66; exact l1In_is h1 _ _))
    go_wp2_with fail
    go_ret
    exact ⟨ret_bool HR.out.symm, (Below.refl _ _).alloc (Nat.le_refl _) _ |>.trans (Joins.below_draws _ _ _)⟩
  · have hn := inB_iff.1 h1
    cases h2 : ((xs.length : Int) == n)
    · have HR : Hid (relB n xs = false) := by
        have : ¬ (xs.length : Int) = n := by simpa using h2
        simp [Hid, relB, h1, this]
      go_enter Try.func87, Try.ntmps87
      go_wp2_with fail
      go_quiet ((go_at_call 66; exact l1In_is h1 _ _))
      go_wp2_with fail
      go_ret
      exact ⟨ret_bool HR.out.symm, (Below.refl _ _).alloc (Nat.le_refl _) _ |>.trans (Joins.below_draws _ _ _)⟩
    · cases h3 : allB xs 0 (wrap64 (wrap64 (2 ^ n.toNat) - 1))
      all_goals
        have HR : Hid (relB n xs = allB xs 0 (wrap64 (wrap64 (2 ^ n.toNat) - 1))) := by
          have : (xs.length : Int) = n := by simpa using h2
          simp only [Hid, relB, h1, this, full_eq hn.1 hn.2]
          simp
        have H3 := Lib.hid h3
        clear h3
        go_enter Try.func87, Try.ntmps87
        go_wp2_with fail
        go_quiet ((first | (go_at_call 66; exact l1In_is h1 _ _) | (go_at_call 103; exact l1All_is hx1 H3.out _)))
        go_wp2_with fail
        go_ret
        exact ⟨ret_bool (by rw [HR.out, H3.out]), (Below.refl _ _).alloc (Nat.le_refl _) _ |>.trans (Joins.below_draws _ _ _)⟩

theorem elem_at {n : Int} {xs : List Int} (hp : RelP n xs) {k : Nat} (hk : k < xs.length) {m : Nat} (hm : m < (elems (nth xs k).toNat).length) :
    ∃ i : Nat, i < xs.length ∧ hasB (nth xs k) i = true ∧ nth (elems (nth xs k).toNat) m = (i : Int) := by
  have h1 := hp.small k hk
  have h0 := hp.pos k hk
  obtain ⟨i, hb, e⟩ := (mem_elems (by omega)).1 (nth_mem hm)
  exact ⟨i, has_lt hp hk hb, hb, e⟩
theorem at_elem {n : Int} {xs : List Int} (hp : RelP n xs) {k : Nat} (hk : k < xs.length) {j : Nat} (h : hasB (nth xs k) j = true) :
    ∃ m, m < (elems (nth xs k).toNat).length ∧ nth (elems (nth xs k).toNat) m = (j : Int) := by
  have h1 := hp.small k hk
  have h0 := hp.pos k hk
  have : (j : Int) ∈ elems (nth xs k).toNat := (mem_elems (by omega)).2 ⟨j, h, rfl⟩
  obtain ⟨m, hm, e⟩ := mem_nth this
  exact ⟨m, hm, e⟩
theorem orGood_any (n : Int) (a : Option Addr) (xs : List Int) (cap : Nat) (w : World) (hx : Rd w a xs) :
    Calls Try.prog 53 #[.agg #[.int .i64 n, .slice a xs.length cap]] w fun e w' => e = .returned (.bool (ordB n xs)) ∧ Below w.heap.size w w' := by
  have hx1 := hx.alloc (.cells #[.int .i64 n, .slice a xs.length cap] 32)
  have hlen := hx.len
  cases hr : relB n xs
  · have HR : Hid (ordB n xs = false) := by simp [Hid, ordB, hr]
    go_enter Try.func53, Try.ntmps53
    go_wp2_with fail
    refine (orRelation_any _ _ _ _ _ hx1).mono ?_
    rintro e w1 ⟨rfl, hb1⟩
    go_wp2_with fail
    go_ret
    exact ⟨ret_bool HR.out.symm, Below.trans (by repeat (first | exact Below.refl _ _ | assumption | refine Below.alloc ?_ (by first | exact Nat.le_refl _ | (simp only [World.size_alloc, World.size_setCell, World.size_drew]; omega) | omega) _ | refine Below.setCell ?_ (by first | exact Nat.le_refl _ | (simp only [World.size_alloc, World.size_setCell, World.size_drew]; omega) | omega) _ | refine Below.drew ?_)) (hb1.mono (by first | (simp only [World.size_alloc, World.size_setCell, World.size_drew]; omega) | omega))⟩
  · have hp := relB_p hr
    go_enter Try.func53, Try.ntmps53
    go_wp2_with fail
    refine (orRelation_any _ _ _ _ _ hx1).mono ?_
    rintro e w1 ⟨rfl, hb1⟩
    have B1 := (Box2.new w _ _ _).below hb1
    have ⟨z1, c1, d1⟩ := B1
    have bw1 : Below w.heap.size w w1 := Below.trans (by repeat (first | exact Below.refl _ _ | assumption | refine Below.alloc ?_ (by first | exact Nat.le_refl _ | (simp only [World.size_alloc, World.size_setCell, World.size_drew]; omega) | omega) _ | refine Below.setCell ?_ (by first | exact Nat.le_refl _ | (simp only [World.size_alloc, World.size_setCell, World.size_drew]; omega) | omega) _ | refine Below.drew ?_)) (hb1.mono (by first | (simp only [World.size_alloc, World.size_setCell, World.size_drew]; omega) | omega))
    have HR := Lib.hid hr
    clear hb1
    go_wp2_with fail
    clear hr
    go_loopw [13] (fun i wr => ∃ k : Nat, k ≤ xs.length ∧ i = .int .i64 k ∧ (∀ j, j < k → okAtB xs j = true) ∧ Below w1.heap.size w1 wr) (fun i _ => xs.length - (intOf i).toNat)
    case atStart => exact ⟨0, Nat.zero_le _, rfl, fun j hj => by omega, Below.refl _ _⟩
    case round =>
      obtain ⟨k, hk, rfl, hall, hb⟩ := hrel
      have Br := B1.below hb
      have ⟨zr, cr, dr⟩ := Br
      have bwr := bw1.trans (hb.mono bw1.size)
      have HA := Lib.hid hall
      clear hall c1 d1
      by_cases hlt : k < xs.length
      · obtain ⟨b, off, rfl, hbl, hc⟩ := (hx.below bwr).cell k hlt
        have hpk := hp.pos k hlt
        have hsk := hp.small k hlt
        have hsk' : nth xs k ≤ 9223372036854775807 := by omega
        cases hin : hasB (nth xs k) k
        · go_wp2_with fail
          refine (orHas_any _ _ _ hpk hsk' (by omega)).mono ?_
          rintro e w' ⟨rfl, rfl⟩
          go_wp2_with fail
          refine (orList_any _ _ hpk hsk).mono ?_
          rintro e w2 ⟨a2, cap2, rfl, ho2, hb2⟩
          have ⟨z2, c2, d2⟩ := Br.below hb2
          have bw2 := bwr.trans (hb2.mono bwr.size)
          have hx2 := hx.below bw2
          have hr2 := ho2.rd
          have bk2 := hb.trans (hb2.mono hb.size)
          have hel := elems_len (nth xs k).toNat
          have HI := Lib.hid hin
          clear hin cr dr hc
          obtain ⟨es, hes⟩ : ∃ es, es = elems (nth xs k).toNat := ⟨_, rfl⟩
          rw [← hes] at ho2 hr2 hel
          have HES := Lib.hid hes
          rw [← hes]
          clear hes ho2 hb2
          go_wp2_with fail
          go_loop [24] (fun i => ∃ j : Nat, j ≤ es.length ∧ i = .int .i64 j ∧ (∀ m, m < j → sub (nth xs (nth es m).toNat).toNat (nth xs k).toNat = 0)) (fun i => es.length - (intOf i).toNat)
          case atStart => exact ⟨0, Nat.zero_le _, rfl, fun m hm => by omega⟩
          case round =>
            obtain ⟨j, hj, rfl, hin2⟩ := hrel
            have HIN := Lib.hid hin2
            clear hin2
            by_cases hjl : j < es.length
            · obtain ⟨b2, off2, rfl, hbl2, hc2⟩ := hr2.cell j hjl
              obtain ⟨i, hil, hib, hie⟩ : ∃ i : Nat, i < xs.length ∧ hasB (nth xs k) i = true ∧ nth es j = (i : Int) := by
                have := elem_at hp hlt (m := j) (by rw [← HES.out]; exact hjl)
                rw [← HES.out] at this
                exact this
              obtain ⟨b3, off3, e3, hbl3, hc3⟩ := hx2.cell i hil
              simp only [Option.some.injEq, Addr.mk.injEq, and_true] at e3
              obtain ⟨rfl, rfl⟩ := e3
              have hpi := hp.pos i hil
              have hsi := hp.small i hil
              have hsub := sub_i (a := nth xs i) (b := nth xs k) hpi (by omega) hpk (by omega)
              have HB := Lib.hid hib
              have HE := Lib.hid hie
              rw [hie] at hc2
              clear hib hie
              by_cases hz : sub (nth xs i).toNat (nth xs k).toNat = 0
              · have hne : (bits BinOp.andNot IntKind.i64 (nth xs i) (nth xs k) != 0) = false := by rw [hsub, hz]; rfl
                have HZ := Lib.hid hz
                clear hz hsub
                go_wp2_with fail
                go_round
                case rel =>
                  refine ⟨j + 1, by omega, by go_num, fun m hm => ?_⟩
                  by_cases e : m = j
                  · rw [e, HE.out, Int.toNat_natCast]; exact HZ.out
                  · exact HIN.out m (by omega)
                case measure => simp [intOf]; omega
              · have hne : (bits BinOp.andNot IntKind.i64 (nth xs i) (nth xs k) != 0) = true := by rw [hsub]; simp; omega
                have HN := Lib.hid (ordB_no (n := n) hlt (okAtB_sub hil HB.out hz))
                clear hz hsub
                go_wp2_with fail
                go_ret
                exact ⟨ret_bool HN.out.symm, bw2⟩
            · obtain rfl : j = es.length := by omega
              have hok : okAtB xs k = true := by
                rw [okAtB_iff]
                refine ⟨HI.out, fun j hj hbj => ?_⟩
                obtain ⟨m, hm, e⟩ := at_elem hp hlt hbj
                rw [← HES.out] at hm e
                have := HIN.out m hm
                rwa [e, Int.toNat_natCast] at this
              have HK := Lib.hid hok
              clear hok
              go_wp2_with fail
              go_roundw
              case rel =>
                refine ⟨k + 1, by omega, by go_num, fun j hj => ?_, bk2⟩
                by_cases e : j = k
                · rw [e]; exact HK.out
                · exact HA.out j (by omega)
              case measure => simp [intOf]; omega
        · have HN := Lib.hid (ordB_no (n := n) hlt (okAtB_has hin))
          go_wp2_with fail
          refine (orHas_any _ _ _ hpk hsk' (by omega)).mono ?_
          rintro e w' ⟨rfl, rfl⟩
          go_wp2_with fail
          go_ret
          exact ⟨ret_bool HN.out.symm, bwr⟩
      · obtain rfl : k = xs.length := by omega
        go_wp2_with fail
        go_ret
        exact ⟨ret_bool (ordB_iff.2 ⟨HR.out, HA.out⟩).symm, bwr⟩

theorem orBelow_any (n : Int) (a : Option Addr) (xs : List Int) (cap : Nat) (i : Int) (w : World) (hx : Rd w a xs) (hr : RelP n xs) (hi : 0 ≤ i) :
    Calls Try.prog 98 #[.agg #[.int .i64 n, .slice a xs.length cap], .int .i64 i] w fun e w' => e = .returned (.int .i64 (belowTo xs i xs.length)) ∧ Below w.heap.size w w' := by
  have hx1 := hx.alloc (.cells #[.int .i64 n, .slice a xs.length cap] 32)
  have hn : xs.length ≤ 10 := by have := hr.len; have := hr.n1; omega
  go_enter Try.func98, Try.ntmps98
  go_wp2_with fail
  go_loop [5, 11] (fun s i' => ∃ k : Nat, k ≤ xs.length ∧ i' = .int .i64 k ∧ s = .int .i64 (belowTo xs i k)) (fun _ i => xs.length - (intOf i).toNat)
  case atStart => exact ⟨0, Nat.zero_le _, rfl, rfl⟩
  case round =>
    obtain ⟨k, hk, rfl, rfl⟩ := hrel
    by_cases hlt : k < xs.length
    · obtain ⟨b, off, rfl, hbl, hc⟩ := hx1.cell k hlt
      obtain ⟨b', off', e', hbl', hc'⟩ := hx.cell k hlt
      simp only [Option.some.injEq, Addr.mk.injEq, and_true] at e'
      obtain ⟨rfl, rfl⟩ := e'
      have hpk := hr.pos k hlt
      have hsk : nth xs k ≤ 9223372036854775807 := by have := hr.small k hlt; omega
      have hbs := belowTo_small xs i (k := k) (by omega)
      have hor := Lib.hid (or_bit (b := belowTo xs i k) (k := k) (by omega) (by omega))
      clear hbs
      cases hin : hasB (nth xs k) i
      · go_wp2_with (go_at_call 88; refine (orHas_any _ _ _ hpk hsk hi).mono ?_; rintro e w' ⟨rfl, rfl⟩)
        go_round
        case rel => exact ⟨k + 1, by omega, by go_num, by simp [belowTo, hin]⟩
        case measure => simp [intOf]; omega
      · go_wp2_with (go_at_call 88; refine (orHas_any _ _ _ hpk hsk hi).mono ?_; rintro e w' ⟨rfl, rfl⟩)
        go_round
        case rel => exact ⟨k + 1, by omega, by go_num, val_int (by rw [hor.out]; simp [belowTo, hin])⟩
        case measure => simp [intOf]; omega
    · obtain rfl : k = xs.length := by omega
      go_wp2_with fail
      go_ret
      exact ⟨rfl, (by repeat (first | exact Below.refl _ _ | assumption | refine Below.alloc ?_ (by first | exact Nat.le_refl _ | (simp only [World.size_alloc, World.size_setCell, World.size_drew]; omega) | omega) _ | refine Below.setCell ?_ (by first | exact Nat.le_refl _ | (simp only [World.size_alloc, World.size_setCell, World.size_drew]; omega) | omega) _ | refine Below.drew ?_))⟩

theorem orFree_any (n : Int) (a : Option Addr) (xs : List Int) (cap : Nat) (k : Nat) (w : World) (hx : Rd w a xs) (hr : RelP n xs) (hk : k < xs.length) :
    Calls Try.prog 123 #[.agg #[.int .i64 n, .slice a xs.length cap], .int .i64 k] w fun e w' => e = .returned (.int .i64 (freeN xs k)) ∧ Below w.heap.size w w' := by
  have hx1 := hx.alloc (.cells #[.int .i64 n, .slice a xs.length cap] 32)
  have hn := hr.n1
  have h0 := hr.n0
  have hk0 : (0 : Int) ≤ (k : Int) := by omega
  have hk1 : (k : Int) < (xs.length : Int) := by omega
  have HF := Lib.hid (free_val hr hk)
  obtain ⟨b, off, rfl, hbl, hc⟩ := hx1.cell k hk
  obtain ⟨b', off', e', hbl', hc'⟩ := hx.cell k hk
  simp only [Option.some.injEq, Addr.mk.injEq, and_true] at e'
  obtain ⟨rfl, rfl⟩ := e'
  go_enter Try.func123, Try.ntmps123
  go_wp2_with fail
  go_region_held3 (fun w' => w'.cell? ⟨w.heap.size, 0, none⟩ = some (.int .i64 n) ∧ w'.cell? ⟨w.heap.size, 1, none⟩ = some (.slice (some ⟨b, off, none⟩) xs.length cap) ∧ w'.cell? ⟨b, off + k, none⟩ = some (.int .i64 (nth xs k)))
    (first | exact ⟨P1.2.1, P1.2.2, q1⟩ | go_keep)
    (first | (go_at_call 98; refine (orBelow_any _ _ _ _ _ _ (hx1.below (Joins.below_draws _ _ _)) hr (by omega)).mono ?_; rintro e w1 ⟨rfl, hb1⟩; have ht1 : Below (w.alloc (.cells #[.int .i64 n, .slice (some ⟨b, off, none⟩) xs.length cap] 32)).heap.size (w.alloc (.cells #[.int .i64 n, .slice (some ⟨b, off, none⟩) xs.length cap] 32)) w1 := (Joins.below_draws _ _ _).trans hb1; have P1 := (Box2.new w _ _ _).below ht1; have q1 := (ht1.cell (p := ⟨b, off + k, none⟩) hbl).trans hc))
  go_wp2_with fail
  go_ret
  exact ⟨ret_int (by rw [show min k 64 = k from by have := hr.len; omega, ← HF.out]; simp only [i64_wrap]), Below.trans (by repeat (first | exact Below.refl _ _ | assumption | refine Below.alloc ?_ (by first | exact Nat.le_refl _ | (simp only [World.size_alloc, World.size_setCell, World.size_drew]; omega) | omega) _ | refine Below.setCell ?_ (by first | exact Nat.le_refl _ | (simp only [World.size_alloc, World.size_setCell, World.size_drew]; omega) | omega) _ | refine Below.drew ?_)) (ht1.mono (by first | (simp only [World.size_alloc, World.size_setCell, World.size_drew]; omega) | omega))⟩

theorem frN_lt {n : Int} {xs : List Int} (hp : RelP n xs) (i : Nat) : freeN xs i < 1024 := by
  have h10 : xs.length ≤ 10 := by have := hp.len; have := hp.n1; omega
  unfold freeN
  have h1 : 2 ^ xs.length ≤ 2 ^ 10 := Nat.pow_le_pow_right (by omega) h10
  have h2 := Nat.two_pow_pos xs.length
  exact sub_lt (n := 10) (by omega)
theorem seIndifferent_any (n : Int) (a : Option Addr) (xs : List Int) (cap : Nat) (i j : Nat) (w : World) (hx : Rd w a xs) (hp : RelP n xs) (hi : i < xs.length) :
    Calls Try.prog 110 #[.agg #[.int .i64 n, .slice a xs.length cap], .int .i64 i, .int .i64 j] w fun e w' => e = .returned (.bool (frB xs i j)) ∧ Below w.heap.size w w' := by
  have hx1 := hx.alloc (.cells #[.int .i64 n, .slice a xs.length cap] 32)
  have hf := frN_lt hp i
  have f0 : (0 : Int) ≤ ((freeN xs i : Nat) : Int) := by omega
  have f1 : ((freeN xs i : Nat) : Int) ≤ 9223372036854775807 := by omega
  have j0 : (0 : Int) ≤ (j : Int) := by omega
  have HB : Hid (hasB ((freeN xs i : Nat) : Int) (j : Int) = frB xs i j) := rfl
  clear hf
  go_enter Try.func110, Try.ntmps110
  go_wp2_with fail
  refine (orFree_any _ _ _ _ _ _ hx1 hp hi).mono ?_
  rintro e w1 ⟨rfl, hb1⟩
  have bw1 : Below w.heap.size w w1 := Below.trans (by repeat (first | exact Below.refl _ _ | assumption | refine Below.alloc ?_ (by first | exact Nat.le_refl _ | (simp only [World.size_alloc, World.size_setCell, World.size_drew]; omega) | omega) _ | refine Below.setCell ?_ (by first | exact Nat.le_refl _ | (simp only [World.size_alloc, World.size_setCell, World.size_drew]; omega) | omega) _ | refine Below.drew ?_)) (hb1.mono (by first | (simp only [World.size_alloc, World.size_setCell, World.size_drew]; omega) | omega))
  clear hb1
  go_wp2_with fail
  refine (orHas_any _ _ _ f0 f1 j0).mono ?_
  rintro e w' ⟨rfl, rfl⟩
  go_wp2_with fail
  go_ret
  exact ⟨ret_bool HB.out, bw1⟩

def elemB (i n : Int) : Bool := decide (0 ≤ i) && decide (i < n)
theorem elemB_iff {i n : Int} : elemB i n = true ↔ 0 ≤ i ∧ i < n := by simp [elemB]
theorem elemB_no {i n : Int} : elemB i n = false ↔ i < 0 ∨ n ≤ i := by
  rw [← Bool.not_eq_true, elemB_iff]; omega

theorem ret_bb {a b c d : Bool} (h : a = b) (h2 : c = d) : Ending.returned (.tuple #[.bool a, .bool c]) = .returned (.tuple #[.bool b, .bool d]) := by rw [h, h2]
theorem ret_ib {a b : Int} {c d : Bool} (h : a = b) (h2 : c = d) : Ending.returned (.tuple #[.int .i64 a, .bool c]) = .returned (.tuple #[.int .i64 b, .bool d]) := by rw [h, h2]

def okE (n : Int) (xs : List Int) (i : Int) : Bool := relB n xs && elemB i n
def okB (n : Int) (xs : List Int) (i j : Int) : Bool := relB n xs && elemB i n && elemB j n
def betF (n : Int) (xs : List Int) (i j : Int) : Bool := okB n xs i j && hasB (nth xs i.toNat) j

theorem seDemand_any (n : Int) (a : Option Addr) (xs : List Int) (cap : Nat) (t : Int) (i j : Nat) (w : World) (hx : Rd w a xs) (hp : RelP n xs) (ht0 : 1 ≤ t) (ht1 : t ≤ 10) (hi : i < xs.length) :
    Calls Try.prog 82 #[.agg #[.int .i64 n, .slice a xs.length cap], .int .i64 t, .int .i64 i, .int .i64 j] w fun e w' => e = .returned (.tuple #[.int .i64 (wtV xs t i j), .bool (wtO xs t i j)]) ∧ Below w.heap.size w w' := by
  have hx1 := hx.alloc (.cells #[.int .i64 n, .slice a xs.length cap] 32)
  have hn := hp.len
  have pi := hp.pos i hi
  have si : nth xs i ≤ 9223372036854775807 := by have := hp.small i hi; omega
  have j0 : (0 : Int) ≤ (j : Int) := by omega
  obtain ⟨b, off, rfl, hbl, hc⟩ := hx1.cell i hi
  obtain ⟨b', off', e', hbl0, hc0⟩ := hx.cell i hi
  simp only [Option.some.injEq, Addr.mk.injEq, and_true] at e'
  obtain ⟨rfl, rfl⟩ := e'
  cases h1 : hasB (nth xs i) j
  · have HH := Lib.hid h1
    cases h2 : frB xs i j
    · have H1 : Hid (wtV xs t i j = 0) := by simp [Hid, wtV, wt_no h1 h2]
      have H2 : Hid (wtO xs t i j = false) := by simp [Hid, wtO, wt_no h1 h2]
      have HF := Lib.hid h2
      clear h1 h2
      go_enter Try.func82, Try.ntmps82
      go_wp2_with fail
      refine (orHas_any _ _ _ pi si j0).mono ?_
      rw [HH.out]
      rintro e w' ⟨rfl, rfl⟩
      go_wp2_with fail
      refine (seIndifferent_any _ _ _ _ _ _ _ hx1 hp hi).mono ?_
      rw [HF.out]
      rintro e w2 ⟨rfl, hb2⟩
      have bw2 : Below w.heap.size w w2 := Below.trans (by repeat (first | exact Below.refl _ _ | assumption | refine Below.alloc ?_ (by first | exact Nat.le_refl _ | (simp only [World.size_alloc, World.size_setCell, World.size_drew]; omega) | omega) _ | refine Below.setCell ?_ (by first | exact Nat.le_refl _ | (simp only [World.size_alloc, World.size_setCell, World.size_drew]; omega) | omega) _ | refine Below.drew ?_)) (hb2.mono (by first | (simp only [World.size_alloc, World.size_setCell, World.size_drew]; omega) | omega))
      go_wp2_with fail
      go_ret2
      exact ⟨ret_ib H1.out.symm H2.out.symm, bw2⟩
    · have H1 : Hid (wtV xs t i j = 1 - t) := by simp [Hid, wtV, wt_free h1 h2]
      have H2 : Hid (wtO xs t i j = true) := by simp [Hid, wtO, wt_free h1 h2]
      have HF := Lib.hid h2
      clear h1 h2
      go_enter Try.func82, Try.ntmps82
      go_wp2_with fail
      refine (orHas_any _ _ _ pi si j0).mono ?_
      rw [HH.out]
      rintro e w' ⟨rfl, rfl⟩
      go_wp2_with fail
      refine (seIndifferent_any _ _ _ _ _ _ _ hx1 hp hi).mono ?_
      rw [HF.out]
      rintro e w2 ⟨rfl, hb2⟩
      have bw2 : Below w.heap.size w w2 := Below.trans (by repeat (first | exact Below.refl _ _ | assumption | refine Below.alloc ?_ (by first | exact Nat.le_refl _ | (simp only [World.size_alloc, World.size_setCell, World.size_drew]; omega) | omega) _ | refine Below.setCell ?_ (by first | exact Nat.le_refl _ | (simp only [World.size_alloc, World.size_setCell, World.size_drew]; omega) | omega) _ | refine Below.drew ?_)) (hb2.mono (by first | (simp only [World.size_alloc, World.size_setCell, World.size_drew]; omega) | omega))
      go_wp2_with fail
      go_ret2
      exact ⟨ret_ib H1.out.symm H2.out.symm, bw2⟩
  · have HH := Lib.hid h1
    have H1 : Hid (wtV xs t i j = t) := by simp [Hid, wtV, wt_yes h1]
    have H2 : Hid (wtO xs t i j = true) := by simp [Hid, wtO, wt_yes h1]
    clear h1
    go_enter Try.func82, Try.ntmps82
    go_wp2_with fail
    refine (orHas_any _ _ _ pi si j0).mono ?_
    rw [HH.out]
    rintro e w' ⟨rfl, rfl⟩
    go_wp2_with fail
    go_ret2
    exact ⟨ret_ib H1.out.symm H2.out.symm, (by repeat (first | exact Below.refl _ _ | assumption | refine Below.alloc ?_ (by first | exact Nat.le_refl _ | (simp only [World.size_alloc, World.size_setCell, World.size_drew]; omega) | omega) _ | refine Below.setCell ?_ (by first | exact Nat.le_refl _ | (simp only [World.size_alloc, World.size_setCell, World.size_drew]; omega) | omega) _ | refine Below.drew ?_))⟩

set_option maxRecDepth 100000 in
theorem sSlack_any (n : Int) (a : Option Addr) (xs : List Int) (cap : Nat) (t : Int) (a1 : Option Addr) (ps : List Int) (cap1 : Nat) (w : World) (hn : -9223372036854775808 ≤ n ∧ n ≤ 9223372036854775807) (hx : Rd w a xs) (ht : -9223372036854775808 ≤ t ∧ t ≤ 9223372036854775807) (hy : Rd w a1 ps) :
    Calls Try.prog 47 #[.agg #[.int .i64 n, .slice a xs.length cap], .int .i64 t, .slice a1 ps.length cap1] w fun e w' => e = .returned (.tuple #[.int .i64 (skR n xs t ps), .bool (skO n xs t ps)]) ∧ Below w.heap.size w w' := by
  have hx1 := hx.alloc (.cells #[.int .i64 n, .slice a xs.length cap] 32)
  cases hr : ordB n xs
  · have H0 : Hid (skO n xs t ps = false) := by simp [Hid, skO, plB, plOk, hr]
    have H1 : Hid (skR n xs t ps = 0) := by rw [Hid, skR, if_neg (by rw [H0.out]; simp)]
    go_enter Try.func47, Try.ntmps47
    go_wp2_with fail
    refine (orGood_any _ _ _ _ _ hx1).mono ?_
    rw [hr]
    rintro e w1 ⟨rfl, hb1⟩
    have bw1 : Below w.heap.size w w1 := Below.trans (by repeat (first | exact Below.refl _ _ | assumption | refine Below.alloc ?_ (by first | exact Nat.le_refl _ | (simp only [World.size_alloc, World.size_setCell, World.size_drew]; omega) | omega) _ | refine Below.setCell ?_ (by first | exact Nat.le_refl _ | (simp only [World.size_alloc, World.size_setCell, World.size_drew]; omega) | omega) _ | refine Below.drew ?_)) (hb1.mono (by first | (simp only [World.size_alloc, World.size_setCell, World.size_drew]; omega) | omega))
    go_wp2_with fail
    go_ret2
    exact ⟨ret_ib H1.out.symm H0.out.symm, bw1⟩
  · have hp := ord_rel hr
    cases hT : thB t
    · have H0 : Hid (skO n xs t ps = false) := by simp [Hid, skO, plB, plOk, hT]
      have H1 : Hid (skR n xs t ps = 0) := by rw [Hid, skR, if_neg (by rw [H0.out]; simp)]
      have HT := Lib.hid hT
      have HR := Lib.hid hr
      clear hT hr
      go_enter Try.func47, Try.ntmps47
      go_wp2_with fail
      refine (orGood_any _ _ _ _ _ hx1).mono ?_
      rw [HR.out]
      rintro e w1 ⟨rfl, hb1⟩
      have bw1 : Below w.heap.size w w1 := Below.trans (by repeat (first | exact Below.refl _ _ | assumption | refine Below.alloc ?_ (by first | exact Nat.le_refl _ | (simp only [World.size_alloc, World.size_setCell, World.size_drew]; omega) | omega) _ | refine Below.setCell ?_ (by first | exact Nat.le_refl _ | (simp only [World.size_alloc, World.size_setCell, World.size_drew]; omega) | omega) _ | refine Below.drew ?_)) (hb1.mono (by first | (simp only [World.size_alloc, World.size_setCell, World.size_drew]; omega) | omega))
      go_wp2_with fail
      refine (seThreshold_any _ _).mono ?_
      rw [HT.out]
      rintro e w' ⟨rfl, rfl⟩
      go_wp2_with fail
      go_ret2
      exact ⟨ret_ib H1.out.symm H0.out.symm, bw1⟩
    · have ⟨t0, t1⟩ := inB_iff.1 (show inB t 1 10 = true from hT)
      obtain rfl : n = (xs.length : Int) := hp.len.symm
      have n10 : xs.length ≤ 10 := by have := hp.n1; omega
      have HPB : Hid (plB (xs.length : Int) xs t ps = (okPl t ps && eqL (pls ps t ps.length) xs)) := by simp [Hid, plB, plOk, hT, hr]
      have HT := Lib.hid hT
      have HR := Lib.hid hr
      cases hq : (okPl t ps && eqL (pls ps t ps.length) xs)
      · have H0 : Hid (skO (xs.length : Int) xs t ps = false) := by rw [Hid, skO, HPB.out, hq]; rfl
        have H1 : Hid (skR (xs.length : Int) xs t ps = 0) := by rw [Hid, skR, if_neg (by rw [H0.out]; simp)]
        have HQ := Lib.hid hq
        clear hT hr hq
        go_enter Try.func47, Try.ntmps47
        go_wp2_with fail
        refine (orGood_any _ _ _ _ _ hx1).mono ?_
        rw [HR.out]
        rintro e w1 ⟨rfl, hb1⟩
        have A1 : Box2 w1 w.heap.size (.int .i64 (xs.length : Int)) (.slice a xs.length cap) := (Box2.new w _ _ _).below hb1
        have ⟨zA, cA, dA⟩ := A1
        have bw1 : Below w.heap.size w w1 := Below.trans (by repeat (first | exact Below.refl _ _ | assumption | refine Below.alloc ?_ (by first | exact Nat.le_refl _ | (simp only [World.size_alloc, World.size_setCell, World.size_drew]; omega) | omega) _ | refine Below.setCell ?_ (by first | exact Nat.le_refl _ | (simp only [World.size_alloc, World.size_setCell, World.size_drew]; omega) | omega) _ | refine Below.drew ?_)) (hb1.mono (by first | (simp only [World.size_alloc, World.size_setCell, World.size_drew]; omega) | omega))
        clear hb1
        go_wp2_with fail
        refine (seThreshold_any _ _).mono ?_
        rw [HT.out]
        rintro e w' ⟨rfl, rfl⟩
        go_wp2_with fail
        refine (sePlaces_any _ _ _ _ _ _ _ _ _ (hx.below bw1) hp HT.out (hy.below bw1)).mono ?_
        rw [HQ.out]
        rintro e w2 ⟨rfl, hb2⟩
        go_wp2_with fail
        go_ret2
        exact ⟨ret_ib H1.out.symm H0.out.symm, bw1.trans (hb2.mono bw1.size)⟩
      · have hq2 := hq
        simp only [Bool.and_eq_true] at hq2
        have hpl := pl_len hq2.2
        have hbd : ∀ k, k < xs.length → 0 ≤ nth ps k ∧ nth ps k ≤ 1000 := fun k hk => allB_nth (okPl_iff.1 hq2.1).2.2 (by omega)
        have H0 : Hid (skO (xs.length : Int) xs t ps = decide (0 < (skAll xs t ps xs.length).length)) := by rw [Hid, skO, HPB.out, hq]; rfl
        have HSK := Lib.hid (fun i (hi : i ≤ xs.length) => sk_bd (xs := xs) (ps := ps) t0 t1 hbd hi)
        have HBD := Lib.hid hbd
        have HPL := Lib.hid hpl
        have HQ := Lib.hid hq
        clear hT hr hq hq2 hbd
        clear hpl
        go_enter Try.func47, Try.ntmps47
        go_wp2_with fail
        refine (orGood_any _ _ _ _ _ hx1).mono ?_
        rw [HR.out]
        rintro e w1 ⟨rfl, hb1⟩
        have A1 : Box2 w1 w.heap.size (.int .i64 (xs.length : Int)) (.slice a xs.length cap) := (Box2.new w _ _ _).below hb1
        have ⟨zA, cA, dA⟩ := A1
        have bw1 : Below w.heap.size w w1 := Below.trans (by repeat (first | exact Below.refl _ _ | assumption | refine Below.alloc ?_ (by first | exact Nat.le_refl _ | (simp only [World.size_alloc, World.size_setCell, World.size_drew]; omega) | omega) _ | refine Below.setCell ?_ (by first | exact Nat.le_refl _ | (simp only [World.size_alloc, World.size_setCell, World.size_drew]; omega) | omega) _ | refine Below.drew ?_)) (hb1.mono (by first | (simp only [World.size_alloc, World.size_setCell, World.size_drew]; omega) | omega))
        clear hb1
        go_wp2_with fail
        refine (seThreshold_any _ _).mono ?_
        rw [HT.out]
        rintro e w' ⟨rfl, rfl⟩
        go_wp2_with fail
        refine (sePlaces_any _ _ _ _ _ _ _ _ _ (hx.below bw1) hp HT.out (hy.below bw1)).mono ?_
        rw [HQ.out]
        rintro e w2 ⟨rfl, hb2⟩
        have bw2 := bw1.trans (hb2.mono bw1.size)
        have A2 := A1.below hb2
        clear zA cA dA A1 hb2
        go_wp2_with fail
        go_loopw [8, 30] (fun m i wr => ∃ k : Nat, k ≤ ps.length ∧ i = .int .i64 k ∧ m = .int .i64 (mn5 (skAll xs t ps k)) ∧ Below w.heap.size w wr ∧ Box2 wr w.heap.size (.int .i64 (xs.length : Int)) (.slice a xs.length cap)) (fun _ i _ => ps.length - (intOf i).toNat)
        case atStart => exact ⟨0, Nat.zero_le _, rfl, rfl, bw2, A2⟩
        case round =>
          obtain ⟨k, hk, rfl, rfl, hb, hB⟩ := hrel
          by_cases hlt : k < ps.length
          · have hkx : k < xs.length := by rw [← HPL.out]; exact hlt
            have ⟨u0, u1⟩ := HBD.out k hkx
            have k0 : (0 : Int) ≤ (k : Int) := by omega
            have H00 := Lib.hid (skAt_0 xs t ps k)
            go_wp2_with fail
            go_loopw [8, 35] (fun m i wr => ∃ j : Nat, j ≤ ps.length ∧ i = .int .i64 j ∧ m = .int .i64 (mn5 (skAt xs t ps k j)) ∧ Below w.heap.size w wr ∧ Box2 wr w.heap.size (.int .i64 (xs.length : Int)) (.slice a xs.length cap)) (fun _ i _ => ps.length - (intOf i).toNat)
            case atStart => exact ⟨0, Nat.zero_le _, rfl, by rw [H00.out], hb, hB⟩
            case round =>
              clear hb hB
              obtain ⟨j, hj, rfl, rfl, hb, hB⟩ := hrel
              by_cases hjl : j < ps.length
              · have hjx : j < xs.length := by rw [← HPL.out]; exact hjl
                have ⟨v0, v1⟩ := HBD.out j hjx
                have j0 : (0 : Int) ≤ (j : Int) := by omega
                have ⟨zB, cB, dB⟩ := hB
                have ⟨q0, q1⟩ := wtV_bd (xs := xs) (i := k) (j := j) t0 t1
                have HSV : Hid (skV xs t ps k j = nth ps j - nth ps k - wtV xs t k j) := rfl
                go_wp2_with fail
                refine (seDemand_any _ _ _ _ _ _ _ _ (hx.below hb) hp t0 t1 hkx).mono ?_
                rintro e w4 ⟨rfl, hb4⟩
                have bw4 := hb.trans (hb4.mono hb.size)
                have B4 := hB.below hb4
                clear hb4 zB cB dB
                cases ho : wtO xs t k j
                · have HN := Lib.hid (skAt_no (ps := ps) ho)
                  go_wp2_with fail
                  go_roundw
                  case rel => exact ⟨j + 1, by omega, by go_num, by rw [HN.out], bw4, B4⟩
                  case measure => simp [intOf]; omega
                · have HN : Hid (mn5 (skAt xs t ps k (j+1)) = min (mn5 (skAt xs t ps k j)) (skV xs t ps k j)) := by rw [Hid, skAt_yes ho, mn5_app]
                  obtain ⟨b, off, rfl, hbl, hc1⟩ := (hy.below bw4).cell k hlt
                  obtain ⟨b2, off2, e2, hbl2, hc2⟩ := (hy.below bw4).cell j hjl
                  simp only [Option.some.injEq, Addr.mk.injEq, and_true] at e2
                  obtain ⟨rfl, rfl⟩ := e2
                  have k1 : (k : Int) < (ps.length : Int) := by omega
                  have j1 : (j : Int) < (ps.length : Int) := by omega
                  go_wp2_with fail
                  go_region_law (go_simp; go_at_call 83; refine (l1Least_any _ _ _).mono ?_; rintro e w5 ⟨rfl, rfl⟩)
                  all_goals
                    go_wp2_with fail
                    go_roundw
                    case rel => exact ⟨j + 1, by omega, by go_num, val_int (by rw [HN.out, HSV.out]), bw4.drew, B4.below ((Below.refl _ _).drew)⟩
                    case measure => simp [intOf]; omega
              · obtain rfl : j = ps.length := by omega
                have HE : Hid (skAt xs t ps k ps.length = skAll xs t ps (k+1)) := by rw [Hid, HPL.out]; exact skAt_end xs t ps k
                go_wp2_with fail
                go_roundw
                case rel => exact ⟨k + 1, by omega, by go_num, by rw [HE.out], hb, hB⟩
                case measure => simp [intOf]; omega
          · obtain rfl : k = ps.length := by omega
            have hsk := HSK.out ps.length (by rw [HPL.out]; exact Nat.le_refl _)
            have hbm := mn5_bd (fun z hz => (hsk z hz).1)
            by_cases hnil : (skAll xs t ps ps.length).length = 0
            · have h5 : mn5 (skAll xs t ps ps.length) = 5000 := (mn5_none (fun z hz => (hsk z hz).2)).2 hnil
              have HF0 : Hid (skO (xs.length : Int) xs t ps = false) := by
                rw [Hid, H0.out, ← HPL.out, hnil]; rfl
              have HF1 : Hid (skR (xs.length : Int) xs t ps = 0) := by rw [Hid, skR, if_neg (by rw [HF0.out]; simp)]
              rw [h5]
              clear hsk h5 hnil hbm
              go_wp2_with fail
              go_ret2
              exact ⟨ret_ib HF1.out.symm HF0.out.symm, hb⟩
            · have h5 : ¬ mn5 (skAll xs t ps ps.length) = 5000 := fun h => hnil ((mn5_none (fun z hz => (hsk z hz).2)).1 h)
              have HF0 : Hid (skO (xs.length : Int) xs t ps = true) := by
                rw [Hid, H0.out, ← HPL.out]; simp; omega
              have HF1 : Hid (skR (xs.length : Int) xs t ps = mn5 (skAll xs t ps ps.length)) := by rw [Hid, skR, if_pos HF0.out, HPL.out]
              have h6 : (mn5 (skAll xs t ps ps.length) == 5000) = false := by simpa using h5
              clear hsk hnil h5
              go_wp2_with fail
              go_ret2
              exact ⟨ret_ib HF1.out.symm HF0.out.symm, hb⟩

def belows (xs : List Int) (k : Nat) : List Int := fmap (fun i => ((belowTo xs i xs.length : Nat) : Int)) k
theorem belows_len (xs : List Int) (k : Nat) : (belows xs k).length = k := fmap_len _ _

theorem hasElement_any (s i : Int) (w : World) (h0 : 0 ≤ s) (h1 : s ≤ 9223372036854775807) (hi : 0 ≤ i) :
    Calls Try.prog 92 #[.int .i64 s, .int .i64 i] w fun e w' => e = .returned (.bool (hasB s i)) ∧ w = w' := by
  have H := Lib.hid (has_and h0 h1 hi)
  go_enter Try.func92, Try.ntmps92
  go_wp2
  go_ret
  exact ⟨ret_bool H.out, rfl⟩

theorem belowSet_any (n : Int) (a : Option Addr) (xs : List Int) (cap : Nat) (i : Int) (w : World) (hx : Rd w a xs) (hr : RelP n xs) (hi : 0 ≤ i) :
    Calls Try.prog 116 #[.agg #[.int .i64 n, .slice a xs.length cap], .int .i64 i] w fun e w' => e = .returned (.int .i64 (belowTo xs i xs.length)) ∧ Below w.heap.size w w' := by
  have hx1 := hx.alloc (.cells #[.int .i64 n, .slice a xs.length cap] 32)
  have hn : xs.length ≤ 10 := by have := hr.len; have := hr.n1; omega
  go_enter Try.func116, Try.ntmps116
  go_wp2_with fail
  go_loop [5, 11] (fun s i' => ∃ k : Nat, k ≤ xs.length ∧ i' = .int .i64 k ∧ s = .int .i64 (belowTo xs i k)) (fun _ i => xs.length - (intOf i).toNat)
  case atStart => exact ⟨0, Nat.zero_le _, rfl, rfl⟩
  case round =>
    obtain ⟨k, hk, rfl, rfl⟩ := hrel
    by_cases hlt : k < xs.length
    · obtain ⟨b, off, rfl, hbl, hc⟩ := hx1.cell k hlt
      obtain ⟨b', off', e', hbl', hc'⟩ := hx.cell k hlt
      simp only [Option.some.injEq, Addr.mk.injEq, and_true] at e'
      obtain ⟨rfl, rfl⟩ := e'
      have hpk := hr.pos k hlt
      have hsk : nth xs k ≤ 9223372036854775807 := by have := hr.small k hlt; omega
      have hbs := belowTo_small xs i (k := k) (by omega)
      have hor := Lib.hid (or_bit (b := belowTo xs i k) (k := k) (by omega) (by omega))
      clear hbs
      cases hin : hasB (nth xs k) i
      · go_wp2_with (go_at_call 92; refine (hasElement_any _ _ _ hpk hsk hi).mono ?_; rintro e w' ⟨rfl, rfl⟩)
        go_round
        case rel => exact ⟨k + 1, by omega, by go_num, by simp [belowTo, hin]⟩
        case measure => simp [intOf]; omega
      · go_wp2_with (go_at_call 92; refine (hasElement_any _ _ _ hpk hsk hi).mono ?_; rintro e w' ⟨rfl, rfl⟩)
        go_round
        case rel => exact ⟨k + 1, by omega, by go_num, val_int (by rw [hor.out]; simp [belowTo, hin])⟩
        case measure => simp [intOf]; omega
    · obtain rfl : k = xs.length := by omega
      go_wp2_with fail
      go_ret
      exact ⟨rfl, (by repeat (first | exact Below.refl _ _ | assumption | refine Below.alloc ?_ (by first | exact Nat.le_refl _ | (simp only [World.size_alloc, World.size_setCell, World.size_drew]; omega) | omega) _ | refine Below.setCell ?_ (by first | exact Nat.le_refl _ | (simp only [World.size_alloc, World.size_setCell, World.size_drew]; omega) | omega) _ | refine Below.drew ?_))⟩

theorem belowSets_any (n : Int) (a : Option Addr) (xs : List Int) (cap : Nat) (w : World) (hx : Rd w a xs) (hr : RelP n xs) :
    Calls Try.prog 106 #[.agg #[.int .i64 n, .slice a xs.length cap]] w fun e w' => ∃ a' cap', e = .returned (.slice a' xs.length cap') ∧ OwnI w' w.heap.size (.slice a' xs.length cap') (belows xs xs.length) ∧ Below w.heap.size w w' := by
  obtain ⟨i0, hi, hz0, hz1, hz2⟩ := info_parts infoInt
  have hn0 := hr.n0
  have hn1 := hr.n1
  obtain rfl : n = (xs.length : Int) := hr.len.symm
  have hn : xs.length ≤ 10 := by omega
  go_enter Try.func106, Try.ntmps106
  go_wp2_with (at_make; refine wpList_make_full _ rfl (.tmp 6) (.tmp 6) 23 rfl (w.heap.size + 1) 3 i0 (.int .i64 0) 1 Try.underlying23 hi hz0 hz1 .i64 .i64 _ _ xs.length rfl rfl rfl rfl (by rw [hz2]; omega) (by unfold maxLen; omega) (by simp) ?_; intro w1 hown hgrow)
  have hb0 : Below w.heap.size w w1 := ((Below.refl _ _).alloc (Nat.le_refl _) _).grown hgrow (by simp) (fun k h => by cases h)
  have hown0 := made_ints (fun i => ((belowTo xs i xs.length : Nat) : Int)) hown
  have B1 : Box2 w1 w.heap.size (.int .i64 (xs.length : Int)) (.slice a xs.length cap) := (Box2.new w _ _ _).kept hgrow (by simp)
  have hx1 : Rd w1 a xs := hx.below hb0
  clear hown hgrow
  simp only [World.size_alloc] at *
  have hz : w.heap.size + 1 < w1.heap.size := by
    have := (World.ownsRow.lt hown0 (w.heap.size + 1) rfl).2
    omega
  go_wp2_with fail
  go_loopw [10] (fun i wr => ∃ k : Nat, k ≤ xs.length ∧ i = .int .i64 k ∧ wr.ownsRow (w.heap.size + 1) 3 1 (.slice (some ⟨w.heap.size + 1, 0, none⟩) xs.length xs.length) xs.length ((fmap (fun i => ((belowTo xs i xs.length : Nat) : Int)) k ++ List.replicate (xs.length - k) (0:Int)).map (Value.int .i64)) ∧ Below w.heap.size w wr ∧ Box2 wr w.heap.size (.int .i64 (xs.length : Int)) (.slice a xs.length cap)) (fun i _ => xs.length - (intOf i).toNat)
  case atStart => exact ⟨0, Nat.zero_le _, rfl, hown0, hb0, B1⟩
  case round =>
    obtain ⟨k, hk, rfl, hown, hb, hB⟩ := hrel
    have ⟨zr, cr, dr⟩ := hB
    by_cases hlt : k < xs.length
    · go_wp2_with fail
      refine (belowSet_any _ _ _ _ _ _ (hx.below hb) hr (by omega)).mono ?_
      rintro e w2 ⟨rfl, hb2⟩
      have hown2 : w2.ownsRow (w.heap.size + 1) 3 1 (.slice (some ⟨w.heap.size + 1, 0, none⟩) xs.length xs.length) xs.length _ := World.ownsRow.kept hown (below_grown hb2 (Nat.le_refl _) none) (.inr (by simp [Value.ownBlock]))
      have hst := World.ownsRow.stored hown2 k (.int .i64 ((belowTo xs k xs.length : Nat) : Int))
      rw [fill_step (fun i => ((belowTo xs i xs.length : Nat) : Int)) xs.length k hlt] at hst
      have hcc := World.ownsRow.cellAt hown2 k (by omega)
      have hfr := World.ownsRow.frozenAt hown2 k
      have hcc' : ∃ u, w2.cell? ⟨w.heap.size + 1, k, none⟩ = some u := by
        rw [hcc]
        exact ⟨_, List.getElem?_eq_getElem (by simp [fmap_len]; omega)⟩
      obtain ⟨u, hu⟩ := hcc'
      have hB2 := hB.below hb2
      have hB3 := hB2.kept hst.2 (by simp)
      have hbw := hb.trans (hb2.mono hb.size)
      have Hst := Lib.hid hst
      clear hst hcc hown hown2 hb2
      go_wp2_with fail
      go_roundw
      case rel => exact ⟨k + 1, by omega, by go_num, Hst.out.1, hbw.setCell (by simp) _, hB3⟩
      case measure => simp [intOf]; omega
    · obtain rfl : k = xs.length := by omega
      go_wp2_with fail
      go_ret
      rw [fill_end] at hown
      refine ⟨_, _, rfl, OwnI.mono (B := w.heap.size + 1) ?_ (by omega), hb⟩
      show World.ownsRow _ _ _ _ _ _ _
      rw [belows_len]
      exact hown

/-- the closure that tells the weights -/
def demV (bo bt bb : Nat) : Value := .func (.func 107) #[] #[.pointer (some ⟨bo, 0, none⟩), .pointer (some ⟨bt, 0, none⟩), .pointer (some ⟨bb, 0, none⟩)]
/-- what a closure's boxes hold -/
structure DemW (w : World) (bo bt bb : Nat) (a : Option Addr) (xs : List Int) (cap : Nat) (t : Int) : Prop where
  o : Box2 w bo (.int .i64 (xs.length : Int)) (.slice a xs.length cap)
  t0 : bt < w.heap.size
  t1 : w.cell? ⟨bt, 0, none⟩ = some (.int .i64 t)
  b0 : bb < w.heap.size
  b1 : ∃ a2 c2, w.cell? ⟨bb, 0, none⟩ = some (.slice a2 xs.length c2) ∧ Rd w a2 (belows xs xs.length)
  x : Rd w a xs
theorem DemW.below {w w' : World} {bo bt bb : Nat} {a : Option Addr} {xs : List Int} {cap : Nat} {t : Int} (h : DemW w bo bt bb a xs cap t) (hb : Below w.heap.size w w') : DemW w' bo bt bb a xs cap t := by
  obtain ⟨a2, c2, h1, h2⟩ := h.b1
  exact ⟨h.o.below hb, Nat.lt_of_lt_of_le h.t0 hb.size, (hb.cell (p := ⟨bt, 0, none⟩) h.t0).trans h.t1, Nat.lt_of_lt_of_le h.b0 hb.size, ⟨a2, c2, (hb.cell (p := ⟨bb, 0, none⟩) h.b0).trans h1, h2.below hb⟩, h.x.below hb⟩
theorem weight_any (bo bt bb : Nat) (a : Option Addr) (xs : List Int) (cap : Nat) (t : Int) (i j : Nat) (w : World) (hd : DemW w bo bt bb a xs cap t) (hp : RelP (xs.length : Int) xs) (ht0 : 1 ≤ t) (ht1 : t ≤ 10) (hi : i < xs.length) (hj : j < xs.length) :
    Calls Try.prog 107 #[.int .i64 i, .int .i64 j, .pointer (some ⟨bo, 0, none⟩), .pointer (some ⟨bt, 0, none⟩), .pointer (some ⟨bb, 0, none⟩)] w fun e w' => e = .returned (.tuple #[.int .i64 (wtV xs t i j), .bool (wtO xs t i j)]) ∧ Below w.heap.size w w' := by
  obtain ⟨a2, c2, hb1, hb2⟩ := hd.b1
  have ⟨zo, co, do'⟩ := hd.o
  have ht := hd.t1
  have pi := hp.pos i hi
  have si : nth xs i ≤ 9223372036854775807 := by have := hp.small i hi; omega
  have h10 : xs.length ≤ 10 := by have := hp.len; have := hp.n1; omega
  have j0 : (0 : Int) ≤ (j : Int) := by omega
  have i0 : (0 : Int) ≤ (i : Int) := by omega
  have i1 : (i : Int) < (xs.length : Int) := by omega
  obtain ⟨b, off, rfl, hbl, hc⟩ := hd.x.cell i hi
  obtain ⟨b2, off2, rfl, hbl2, hc2⟩ := hb2.cell i (by rw [belows_len]; exact hi)
  rw [show nth (belows xs xs.length) i = _ from fmap_nth _ hi] at hc2
  have hbt := belowTo_small xs (i : Int) (k := xs.length) h10
  have q0 : (0 : Int) ≤ ((belowTo xs (i : Int) xs.length : Nat) : Int) := by omega
  have q1 : ((belowTo xs (i : Int) xs.length : Nat) : Int) ≤ 9223372036854775807 := by omega
  have HBB : Hid (hasB ((belowTo xs (i : Int) xs.length : Nat) : Int) (j : Int) = hasB (nth xs j) (i : Int)) := by
    simp only [Hid, hasB, Int.toNat_natCast]
    have := belowTo_bit xs (i : Int) j xs.length
    rw [this]
    simp [hj, hasB]
  clear hbt hd hb2
  cases h1 : hasB (nth xs i) j
  · have HH := Lib.hid h1
    by_cases hij : i = j
    · have hij' : ((i : Int) == (j : Int)) = true := by simp [hij]
      have h2 : frB xs i j = false := by
        rw [← Bool.not_eq_true]
        intro h
        exact ((frB_iff hp hi).1 h).2.2.2 hij.symm
      have H1 : Hid (wtV xs t i j = 0) := by simp [Hid, wtV, wt_no h1 h2]
      have H2 : Hid (wtO xs t i j = false) := by simp [Hid, wtO, wt_no h1 h2]
      clear h1 h2 hij
      go_enter Try.func107, Try.ntmps107
      go_wp2_with fail
      refine (hasElement_any _ _ _ pi si j0).mono ?_
      rw [HH.out]
      rintro e w' ⟨rfl, rfl⟩
      go_wp2_with fail
      go_ret2
      exact ⟨ret_ib H1.out.symm H2.out.symm, Below.refl _ _⟩
    · have hij' : ((i : Int) == (j : Int)) = false := by simp; omega
      cases h3 : hasB (nth xs j) (i : Int)
      · have h2 : frB xs i j = true := (frB_iff hp hi).2 ⟨hj, h1, h3, fun e => hij e.symm⟩
        have H1 : Hid (wtV xs t i j = 1 - t) := by simp [Hid, wtV, wt_free h1 h2]
        have H2 : Hid (wtO xs t i j = true) := by simp [Hid, wtO, wt_free h1 h2]
        have HQ : Hid (hasB ((belowTo xs (i : Int) xs.length : Nat) : Int) (j : Int) = false) := by rw [Hid, HBB.out, h3]
        clear h1 h2 h3 hij
        go_enter Try.func107, Try.ntmps107
        go_wp2_with fail
        refine (hasElement_any _ _ _ pi si j0).mono ?_
        rw [HH.out]
        rintro e w' ⟨rfl, rfl⟩
        go_wp2_with fail
        refine (hasElement_any _ _ _ q0 q1 j0).mono ?_
        rw [HQ.out]
        rintro e w' ⟨rfl, rfl⟩
        go_wp2_with fail
        go_ret2
        exact ⟨ret_ib H1.out.symm H2.out.symm, Below.refl _ _⟩
      · have h2 : frB xs i j = false := by
          rw [← Bool.not_eq_true]
          intro h
          have := ((frB_iff hp hi).1 h).2.2.1
          rw [h3] at this; cases this
        have H1 : Hid (wtV xs t i j = 0) := by simp [Hid, wtV, wt_no h1 h2]
        have H2 : Hid (wtO xs t i j = false) := by simp [Hid, wtO, wt_no h1 h2]
        have HQ : Hid (hasB ((belowTo xs (i : Int) xs.length : Nat) : Int) (j : Int) = true) := by rw [Hid, HBB.out, h3]
        clear h1 h2 h3 hij
        go_enter Try.func107, Try.ntmps107
        go_wp2_with fail
        refine (hasElement_any _ _ _ pi si j0).mono ?_
        rw [HH.out]
        rintro e w' ⟨rfl, rfl⟩
        go_wp2_with fail
        refine (hasElement_any _ _ _ q0 q1 j0).mono ?_
        rw [HQ.out]
        rintro e w' ⟨rfl, rfl⟩
        go_wp2_with fail
        go_ret2
        exact ⟨ret_ib H1.out.symm H2.out.symm, Below.refl _ _⟩
  · have HH := Lib.hid h1
    have H1 : Hid (wtV xs t i j = t) := by simp [Hid, wtV, wt_yes h1]
    have H2 : Hid (wtO xs t i j = true) := by simp [Hid, wtO, wt_yes h1]
    clear h1
    go_enter Try.func107, Try.ntmps107
    go_wp2_with fail
    refine (hasElement_any _ _ _ pi si j0).mono ?_
    rw [HH.out]
    rintro e w' ⟨rfl, rfl⟩
    go_wp2_with fail
    go_ret2
    exact ⟨ret_ib H1.out.symm H2.out.symm, Below.refl _ _⟩
theorem demandsOf_any (a : Option Addr) (xs : List Int) (cap : Nat) (t : Int) (w : World) (hx : Rd w a xs) (hp : RelP (xs.length : Int) xs) :
    Calls Try.prog 78 #[.agg #[.int .i64 (xs.length : Int), .slice a xs.length cap], .int .i64 t] w fun e w' => ∃ bo bt bb : Nat, e = .returned (.agg #[.int .i64 (xs.length : Int), demV bo bt bb]) ∧ DemW w' bo bt bb a xs cap t ∧ Below w.heap.size w w' := by
  have hx1 := hx.alloc (.cells #[.int .i64 (xs.length : Int), .slice a xs.length cap] 32)
  go_enter Try.func78, Try.ntmps78
  go_wp2_with fail
  refine (belowSets_any _ _ _ _ _ (hx.below (by repeat (first | exact Below.refl _ _ | assumption | refine Below.alloc ?_ (by first | exact Nat.le_refl _ | (simp only [World.size_alloc, World.size_setCell, World.size_drew]; omega) | omega) _ | refine Below.setCell ?_ (by first | exact Nat.le_refl _ | (simp only [World.size_alloc, World.size_setCell, World.size_drew]; omega) | omega) _ | refine Below.drew ?_))) hp).mono ?_
  rintro e w1 ⟨a2, c2, rfl, ho, hb⟩
  have A1 : Box2 w1 w.heap.size (.int .i64 (xs.length : Int)) (.slice a xs.length cap) := (((Box2.new w _ _ _).below ((Below.refl _ _).alloc (Nat.le_refl _) _)).below ((Below.refl _ _).alloc (Nat.le_refl _) _)).below hb
  have T0 : (((w.alloc (.cells #[.int .i64 (xs.length : Int), .slice a xs.length cap] 32)).alloc (.cells #[.int .i64 t] 3)).alloc (.cells #[.int .i64 0, .nilFunc] 88)).cell? ⟨w.heap.size + 1, 0, none⟩ = some (.int .i64 t) := by
    rw [((Below.refl _ _).alloc (Nat.le_refl _) _).cell (p := ⟨w.heap.size + 1, 0, none⟩) (show w.heap.size + 1 < _ by simp)]
    simp
  have T1 : w1.cell? ⟨w.heap.size + 1, 0, none⟩ = some (.int .i64 t) := by
    rw [← T0]
    exact hb.cell (p := ⟨w.heap.size + 1, 0, none⟩) (show w.heap.size + 1 < _ by simp)
  have R1 : Var2 w1 (w.heap.size + 1 + 1) (.int .i64 0) .nilFunc := by
    have := (Var2.new ((w.alloc (.cells #[.int .i64 (xs.length : Int), .slice a xs.length cap] 32)).alloc (.cells #[.int .i64 t] 3)) (.int .i64 0) .nilFunc 88).below hb
    simpa using this
  have bw1 : Below w.heap.size w w1 := Below.trans (by repeat (first | exact Below.refl _ _ | assumption | refine Below.alloc ?_ (by first | exact Nat.le_refl _ | (simp only [World.size_alloc, World.size_setCell, World.size_drew]; omega) | omega) _ | refine Below.setCell ?_ (by first | exact Nat.le_refl _ | (simp only [World.size_alloc, World.size_setCell, World.size_drew]; omega) | omega) _ | refine Below.drew ?_)) (hb.mono (by first | (simp only [World.size_alloc, World.size_setCell, World.size_drew]; omega) | omega))
  have ho1 : OwnI w1 (w.heap.size + 1 + 1 + 1) (.slice a2 xs.length c2) (belows xs xs.length) := by
    have := ho; simp only [World.size_alloc] at this; exact this
  have ⟨zA, cA, dA⟩ := A1
  have ⟨⟨zR, cR, dR⟩, fR, gR⟩ := R1
  have hsf : ∀ (W : World) (p : Addr) (f : Fn) (ls : Array Value) (cs : Array Value), (store p (.func f ls cs)).run Try.prog W = stored Try.prog W p (.func f ls cs) .plain := fun W p f ls cs => run_store _ _ _ _ _ rfl
  clear hb ho
  go_wp2_with fail
  have R3 := R1.set (.int .i64 (xs.length : Int)) (demV w.heap.size (w.heap.size + 1) w1.heap.size)
  have o3 := ((ho1.setBelow (p := ⟨w.heap.size + 1 + 1, 0, none⟩) (show w.heap.size + 1 + 1 < w.heap.size + 1 + 1 + 1 by omega) (.int .i64 (xs.length : Int))).setBelow (p := ⟨w.heap.size + 1 + 1, 1, none⟩) (show w.heap.size + 1 + 1 < w.heap.size + 1 + 1 + 1 by omega) (demV w.heap.size (w.heap.size + 1) w1.heap.size)).rd
  have A3 := (A1.set (p := ⟨w.heap.size + 1 + 1, 0, none⟩) (.int .i64 (xs.length : Int)) (show w.heap.size ≠ w.heap.size + 1 + 1 by omega)).set (p := ⟨w.heap.size + 1 + 1, 1, none⟩) (demV w.heap.size (w.heap.size + 1) w1.heap.size) (show w.heap.size ≠ w.heap.size + 1 + 1 by omega)
  have bw3 := (bw1.setCell (p := ⟨w.heap.size + 1 + 1, 0, none⟩) (show w.heap.size ≤ w.heap.size + 1 + 1 by omega) (.int .i64 (xs.length : Int))).setCell (p := ⟨w.heap.size + 1 + 1, 1, none⟩) (show w.heap.size ≤ w.heap.size + 1 + 1 by omega) (demV w.heap.size (w.heap.size + 1) w1.heap.size)
  have T3 : ((w1.setCell ⟨w.heap.size + 1 + 1, 0, none⟩ (.int .i64 (xs.length : Int))).setCell ⟨w.heap.size + 1 + 1, 1, none⟩ (demV w.heap.size (w.heap.size + 1) w1.heap.size)).cell? ⟨w.heap.size + 1, 0, none⟩ = some (.int .i64 t) := by
    rw [World.cell?_setCell_other _ _ _ _ (by simp), World.cell?_setCell_other _ _ _ _ (by simp), T1]
  have R4 := R3.alloc (.cells #[.slice a2 xs.length c2] 23)
  refine bodyPost_ret (v := .agg #[.int .i64 (xs.length : Int), demV w.heap.size (w.heap.size + 1) w1.heap.size]) (by have ⟨⟨_, q1, q2⟩, _, _⟩ := R4; simp only [demV] at q1 q2; simp [results, Try.results78, go_sem, q1, q2, demV]) rfl ?_
  refine ⟨w.heap.size, w.heap.size + 1, w1.heap.size, rfl, ?_, bw3.alloc bw3.size _⟩
  obtain ⟨wx, hwx⟩ : ∃ wx, wx = (w1.setCell ⟨w.heap.size + 1 + 1, 0, none⟩ (.int .i64 (xs.length : Int))).setCell ⟨w.heap.size + 1 + 1, 1, none⟩ (demV w.heap.size (w.heap.size + 1) w1.heap.size) := ⟨_, rfl⟩
  have hsz : wx.heap.size = w1.heap.size := by rw [hwx]; simp
  simp only [demV] at hwx A3 bw3 T3 o3
  rw [← hwx] at A3 bw3 T3 o3 ⊢
  have ha : Below wx.heap.size wx (wx.alloc (.cells #[.slice a2 xs.length c2] 23)) := (Below.refl _ _).alloc (Nat.le_refl _) _
  refine ⟨A3.below ha, by simp; omega, ?_, by simp; omega, ⟨a2, c2, by rw [← hsz]; simp, o3.below ha⟩, (hx.below bw3).below ha⟩
  rw [← T3]
  exact ha.cell (p := ⟨w.heap.size + 1, 0, none⟩) (by show w.heap.size + 1 < wx.heap.size; omega)

theorem isNoPlace_any (x : Int) (w : World) :
    Calls Try.prog 105 #[.int .i64 x] w fun e w' => e = .returned (.bool (!inB x 0 1000)) ∧ w = w' := by
  by_cases h : x < 0
  · have H : Hid ((!inB x 0 1000) = true) := by simp [Hid, inB]; omega
    go_enter Try.func105, Try.ntmps105
    go_wp2
    go_ret
    exact ⟨ret_bool H.out.symm, rfl⟩
  · have H : Hid ((!inB x 0 1000) = decide (1000 < x)) := by
      have : (0 : Int) ≤ x := by omega
      simp only [Hid, inB, this, decide_true, Bool.true_and]
      rw [← decide_not, decide_eq_decide]; omega
    go_enter Try.func105, Try.ntmps105
    go_wp2
    go_ret
    exact ⟨ret_bool (by rw [H.out]), rfl⟩
theorem idxNo_any (a : Option Addr) (xs : List Int) (cap : Nat) (w : World) (hx : Rd w a xs) :
    Calls Try.prog 122 #[.slice a xs.length cap, .func (.func 105) #[] #[]] w fun e w' => ∃ r : Int, e = .returned (.int .i64 r) ∧ decide (0 ≤ r) = !allB xs 0 1000 ∧ w = w' := by
  have hlen := hx.len
  go_enter Try.func122, Try.ntmps122
  go_wp2_with fail
  go_loop [8] (fun i => ∃ k : Nat, k ≤ xs.length ∧ i = .int .i64 k ∧ allB (xs.take k) 0 1000 = true) (fun i => xs.length - (intOf i).toNat)
  case atStart => exact ⟨0, Nat.zero_le _, rfl, rfl⟩
  case round =>
    obtain ⟨k, hk, rfl, hall⟩ := hrel
    have HA := Lib.hid hall
    clear hall
    by_cases hlt : k < xs.length
    · obtain ⟨b, off, rfl, hbl, hc⟩ := hx.cell k hlt
      cases hin : inB (nth xs k) 0 1000
      · have hf := Lib.hid (allB_false hlt hin)
        have HI := Lib.hid hin
        clear hin
        go_wp2_with fail
        refine (isNoPlace_any _ _).mono ?_
        rw [HI.out]
        rintro e w' ⟨rfl, rfl⟩
        go_wp2_with fail
        go_ret
        exact ⟨(k : Int), rfl, by rw [hf.out]; simp, rfl⟩
      · have hf : Hid (allB (xs.take (k+1)) 0 1000 = true) := by rw [Hid, allB_take _ _ _ _ hlt, HA.out, hin]; rfl
        have HI := Lib.hid hin
        clear hin
        go_wp2_with fail
        refine (isNoPlace_any _ _).mono ?_
        rw [HI.out]
        rintro e w' ⟨rfl, rfl⟩
        go_wp2_with fail
        go_round
        case rel => exact ⟨k + 1, by omega, by go_num, hf.out⟩
        case measure => simp [intOf]; omega
    · have hf : Hid (allB xs 0 1000 = true) := by
        have := HA.out
        rw [List.take_of_length_le (by omega)] at this
        exact this
      go_wp2_with fail
      go_ret
      exact ⟨-1, rfl, by rw [hf.out]; rfl, rfl⟩
theorem hasNo_any (a : Option Addr) (xs : List Int) (cap : Nat) (w : World) (hx : Rd w a xs) :
    Calls Try.prog 104 #[.slice a xs.length cap, .func (.func 105) #[] #[]] w fun e w' => e = .returned (.bool (!allB xs 0 1000)) ∧ w = w' := by
  go_enter Try.func104, Try.ntmps104
  go_wp2_with fail
  refine (idxNo_any _ _ _ _ hx).mono ?_
  rintro e w' ⟨r, rfl, hr, rfl⟩
  have HR := Lib.hid hr
  clear hr
  go_wp2_with fail
  go_ret
  exact ⟨ret_bool HR.out, rfl⟩

theorem isThreshold_any (t : Int) (w : World) :
    Calls Try.prog 75 #[.int .i64 t] w fun e w' => e = .returned (.bool (thB t)) ∧ w = w' := by
  by_cases h : 1 ≤ t
  · have H : Hid (thB t = decide (t ≤ 10)) := by simp [Hid, thB, inB, h]
    go_enter Try.func75, Try.ntmps75
    go_wp2
    go_ret
    exact ⟨ret_bool (by rw [H.out]; try simp; try omega), rfl⟩
  · have H : Hid (thB t = false) := by simp [Hid, thB, inB, h]
    go_enter Try.func75, Try.ntmps75
    go_wp2
    go_ret
    exact ⟨ret_bool H.out.symm, rfl⟩

def mirN (n : Int) (xs : List Int) : Int := if relB n xs then n else 0
def mirL (n : Int) (xs : List Int) : List Int := if relB n xs then belows xs xs.length else []
theorem mirL_len (n : Int) (xs : List Int) : (mirL n xs).length ≤ 1048576 := by
  unfold mirL
  split
  · rename_i h
    have hp := relB_p h
    have := hp.len
    have := hp.n1
    rw [belows_len]
    omega
  · simp
/-- what a call hands back that makes an order -/
def GotO (w : World) (n : Int) (ys : List Int) (ok : Bool) (e : Ending) (w' : World) : Prop :=
  ∃ a cap, e = .returned (.tuple #[.agg #[.int .i64 n, .slice a ys.length cap], .bool ok]) ∧ OwnI w' w.heap.size (.slice a ys.length cap) ys ∧ Below w.heap.size w w'

/-- a row of m integers of which the first k are filled, f 0 .. -/
def rowF (f : Nat → Int) (m k : Nat) : List Int := fmap f k ++ List.replicate (m - k) 0
theorem rowF_len (f : Nat → Int) {m k : Nat} (h : k ≤ m) : (rowF f m k).length = m := by simp [rowF, fmap_len]; omega
theorem rowF_set (f : Nat → Int) {m k : Nat} (h : k < m) : (rowF f m k).set k (f k) = rowF f m (k+1) := by
  apply List.ext_getElem?
  intro j
  rw [List.getElem?_set]
  by_cases hj : k = j
  · subst hj
    rw [if_pos rfl, if_pos (by rw [rowF_len f (by omega)]; exact h), rowF, List.getElem?_append_left (by rw [fmap_len]; omega)]
    simp [fmap]
  · simp only [hj, if_false, rowF, List.getElem?_append, fmap_len, List.getElem?_replicate]
    by_cases h1 : j < k
    · have h2 : j < k + 1 := by omega
      simp [h1, h2, fmap]
    · have h2 : ¬ j < k + 1 := by omega
      have h3 : j - k < m - k ↔ j - (k+1) < m - (k+1) := by omega
      simp [h1, h2, h3]
theorem rowF_zero (f : Nat → Int) {m k : Nat} (h : k < m) : (rowF f m k).set k 0 = rowF f m k := by
  apply List.ext_getElem?
  intro j
  rw [List.getElem?_set]
  by_cases hj : k = j
  · subst hj
    rw [if_pos rfl, if_pos (by rw [rowF_len f (by omega)]; exact h), rowF, List.getElem?_append_right (by rw [fmap_len]; omega)]
    rw [fmap_len, Nat.sub_self, List.getElem?_replicate, if_pos (by omega)]
  · simp [hj]
theorem rowF_end (f : Nat → Int) (m : Nat) : rowF f m m = fmap f m := by simp [rowF]
theorem made_row {w1 : World} {B : Nat} {v : Value} {m : Nat} (f : Nat → Int) (h : w1.ownsRow B 3 1 v m (madeCells (Value.int .i64 0).cells (m * 1)).toList) : OwnI w1 B v (rowF f m 0) := by
  unfold OwnI
  rw [rowF_len f (Nat.zero_le _)]
  simpa [Value.cells, toList_madeCells_one, fmap, rowF] using h

/-- one step of the closing: what is above k goes to i, if k is above i -/
def clStep (xs : List Int) (k i : Nat) : List Int := if hasB (nth xs i) k then xs.set i (((nth xs i).toNat ||| (nth xs k).toNat : Nat) : Int) else xs
def clRow (xs : List Int) (k : Nat) : Nat → List Int
  | 0 => xs
  | i+1 => clStep (clRow xs k i) k i
def clAll (xs : List Int) : Nat → List Int
  | 0 => xs
  | k+1 => clRow (clAll xs k) k xs.length
theorem clStep_len (xs : List Int) (k i : Nat) : (clStep xs k i).length = xs.length := by
  unfold clStep; split <;> simp
theorem clRow_len (xs : List Int) (k : Nat) : ∀ i, (clRow xs k i).length = xs.length
  | 0 => rfl
  | i+1 => by rw [clRow, clStep_len, clRow_len xs k i]
theorem clAll_len (xs : List Int) : ∀ k, (clAll xs k).length = xs.length
  | 0 => rfl
  | k+1 => by rw [clAll, clRow_len, clAll_len xs k]
/-- all numbers of a list are sets below 1024 -/
def Small (xs : List Int) : Prop := ∀ k, k < xs.length → 0 ≤ nth xs k ∧ nth xs k < 1024
theorem nth_set {xs : List Int} {i j : Nat} {x : Int} (hi : i < xs.length) : nth (xs.set i x) j = if i = j then x else nth xs j := by
  simp only [nth, List.getD_eq_getElem?_getD, List.getElem?_set]
  by_cases h : i = j
  · subst h; simp [hi]
  · simp [h]
theorem clStep_small {xs : List Int} (h : Small xs) {k i : Nat} (hk : k < xs.length) (hi : i < xs.length) : Small (clStep xs k i) := by
  unfold clStep
  split
  · intro j hj
    rw [nth_set hi]
    have h1 := h i hi
    have h2 := h k hk
    split
    · have : (nth xs i).toNat ||| (nth xs k).toNat < 2 ^ 10 := or_lt (by omega) (by omega)
      omega
    · exact h j (by simpa using hj)
  · exact h
theorem clRow_small {xs : List Int} (h : Small xs) {k : Nat} (hk : k < xs.length) : ∀ i, i ≤ xs.length → Small (clRow xs k i)
  | 0, _ => h
  | i+1, hi => clStep_small (clRow_small h hk i (by omega)) (by rw [clRow_len]; exact hk) (by rw [clRow_len]; omega)
theorem clAll_small {xs : List Int} (h : Small xs) : ∀ k, k ≤ xs.length → Small (clAll xs k)
  | 0, _ => h
  | k+1, hk => clRow_small (clAll_small h k (by omega)) (by rw [clAll_len]; omega) _ (by rw [clAll_len]; omega)
theorem RelP.sm {n : Int} {xs : List Int} (h : RelP n xs) : Small xs := fun k hk => ⟨h.pos k hk, h.small k hk⟩
theorem set_ints (xs : List Int) (i : Nat) (x : Int) : (xs.map (Value.int .i64)).set i (.int .i64 x) = (xs.set i x).map (Value.int .i64) := by
  rw [List.map_set]
/-- a store into an owned row -/
theorem OwnI.put {w : World} {B g n cap : Nat} {xs : List Int} (h : OwnI w B (.slice (some ⟨g, 0, none⟩) n cap) xs) (hn : n = xs.length) (i : Nat) (x : Int) :
    OwnI (w.setCell ⟨g, i, none⟩ (.int .i64 x)) B (.slice (some ⟨g, 0, none⟩) n cap) (xs.set i x) ∧ w.grownBy (w.setCell ⟨g, i, none⟩ (.int .i64 x)) (some g) := by
  subst hn
  have hst := World.ownsRow.stored h i (.int .i64 x)
  rw [set_ints] at hst
  refine ⟨?_, hst.2⟩
  unfold OwnI
  rw [List.length_set]
  exact hst.1
theorem OwnI.at' {w : World} {B g n cap : Nat} {xs : List Int} (h : OwnI w B (.slice (some ⟨g, 0, none⟩) n cap) xs) (hn : n = xs.length) {i : Nat} (hi : i < xs.length) :
    w.cell? ⟨g, i, none⟩ = some (.int .i64 (nth xs i)) ∧ w.frozen? ⟨g, i, none⟩ = false := by
  subst hn
  refine ⟨?_, World.ownsRow.frozenAt h i⟩
  rw [World.ownsRow.cellAt h i (by omega)]
  simp [nth, hi]
theorem OwnI.head {w : World} {B n cap : Nat} {a : Option Addr} {xs : List Int} (h : OwnI w B (.slice a n cap) xs) (hp : 0 < xs.length) : ∃ g, a = some ⟨g, 0, none⟩ ∧ B ≤ g ∧ g < w.heap.size := by
  rcases h.2 with ⟨e, h0⟩ | ⟨g, c, cur, e, hb, hg, _⟩
  · omega
  · simp only [Value.slice.injEq] at e
    exact ⟨g, e.1, hb, (Array.getElem?_eq_some_iff.1 hg).1⟩
def cloN (n : Int) (xs : List Int) : Int := if relB n xs then n else 0
def cloL (n : Int) (xs : List Int) : List Int := if relB n xs then clAll xs xs.length else []
theorem cloL_len (n : Int) (xs : List Int) : (cloL n xs).length ≤ 1048576 := by
  unfold cloL
  split
  · rename_i h
    have hp := relB_p h
    have := hp.len
    have := hp.n1
    rw [clAll_len]
    omega
  · simp

set_option maxRecDepth 100000 in
theorem iOrderOfPl_any (t : Int) (a : Option Addr) (xs : List Int) (cap : Nat) (w : World) (ht : -9223372036854775808 ≤ t ∧ t ≤ 9223372036854775807) (hx : Rd w a xs) :
    Calls Try.prog 76 #[.int .i64 t, .slice a xs.length cap] w (GotO w (plN t xs) (plL t xs) (okPl t xs)) := by
  obtain ⟨i0, hi, hz0, hz1, hz2⟩ := info_parts infoInt
  have hx1 := hx.alloc (.cells #[.int .i64 0, .slice none 0 0] 32)
  have hlen := hx.len
  cases hg : okPl t xs
  · have H1 : Hid (plN t xs = 0) := by simp [Hid, plN, hg]
    have H2 : Hid (plL t xs = []) := by simp [Hid, plL, hg]
    have HG := Lib.hid hg
    cases h1 : thB t
    · have HT := Lib.hid h1
      clear hg h1
      go_enter Try.func76, Try.ntmps76
      go_wp2_with fail
      refine (isThreshold_any _ _).mono ?_
      rw [HT.out]
      rintro e w' ⟨rfl, rfl⟩
      go_wp2_with fail
      have R3 := (Var2.new w (.int .i64 0) (.slice none 0 0) 32).set (.int .i64 0) (.slice none 0 0)
      refine bodyPost_ret (v := .tuple #[.agg #[.int .i64 0, .slice none 0 0], .bool false]) (by have ⟨⟨_, q1, q2⟩, _, _⟩ := R3; simp [results, Try.results76, go_sem, q1, q2]) rfl ?_
      refine ⟨none, 0, ?_, ?_, (by repeat (first | exact Below.refl _ _ | assumption | refine Below.alloc ?_ (by first | exact Nat.le_refl _ | (simp only [World.size_alloc, World.size_setCell, World.size_drew]; omega) | omega) _ | refine Below.setCell ?_ (by first | exact Nat.le_refl _ | (simp only [World.size_alloc, World.size_setCell, World.size_drew]; omega) | omega) _ | refine Below.drew ?_))⟩
      · rw [H1.out, H2.out]; rfl
      · rw [H2.out]; exact OwnI.nil _ _
    · by_cases h2 : xs.length ≤ 10
      · have h3 : allB xs 0 1000 = false := by
          rw [← Bool.not_eq_true]
          intro h3
          rw [okPl_iff.2 ⟨h1, h2, h3⟩] at hg
          cases hg
        have HT := Lib.hid h1
        have HA := Lib.hid h3
        clear hg h1 h3
        go_enter Try.func76, Try.ntmps76
        go_wp2_with fail
        refine (isThreshold_any _ _).mono ?_
        rw [HT.out]
        rintro e w' ⟨rfl, rfl⟩
        go_wp2_with fail
        refine (hasNo_any _ _ _ _ hx1).mono ?_
        rw [HA.out]
        rintro e w' ⟨rfl, rfl⟩
        go_wp2_with fail
        have R3 := (Var2.new w (.int .i64 0) (.slice none 0 0) 32).set (.int .i64 0) (.slice none 0 0)
        refine bodyPost_ret (v := .tuple #[.agg #[.int .i64 0, .slice none 0 0], .bool false]) (by have ⟨⟨_, q1, q2⟩, _, _⟩ := R3; simp [results, Try.results76, go_sem, q1, q2]) rfl ?_
        refine ⟨none, 0, ?_, ?_, (by repeat (first | exact Below.refl _ _ | assumption | refine Below.alloc ?_ (by first | exact Nat.le_refl _ | (simp only [World.size_alloc, World.size_setCell, World.size_drew]; omega) | omega) _ | refine Below.setCell ?_ (by first | exact Nat.le_refl _ | (simp only [World.size_alloc, World.size_setCell, World.size_drew]; omega) | omega) _ | refine Below.drew ?_))⟩
        · rw [H1.out, H2.out]; rfl
        · rw [H2.out]; exact OwnI.nil _ _
      · have HT := Lib.hid h1
        clear hg h1
        go_enter Try.func76, Try.ntmps76
        go_wp2_with fail
        refine (isThreshold_any _ _).mono ?_
        rw [HT.out]
        rintro e w' ⟨rfl, rfl⟩
        go_wp2_with fail
        have R3 := (Var2.new w (.int .i64 0) (.slice none 0 0) 32).set (.int .i64 0) (.slice none 0 0)
        refine bodyPost_ret (v := .tuple #[.agg #[.int .i64 0, .slice none 0 0], .bool false]) (by have ⟨⟨_, q1, q2⟩, _, _⟩ := R3; simp [results, Try.results76, go_sem, q1, q2]) rfl ?_
        refine ⟨none, 0, ?_, ?_, (by repeat (first | exact Below.refl _ _ | assumption | refine Below.alloc ?_ (by first | exact Nat.le_refl _ | (simp only [World.size_alloc, World.size_setCell, World.size_drew]; omega) | omega) _ | refine Below.setCell ?_ (by first | exact Nat.le_refl _ | (simp only [World.size_alloc, World.size_setCell, World.size_drew]; omega) | omega) _ | refine Below.drew ?_))⟩
        · rw [H1.out, H2.out]; rfl
        · rw [H2.out]; exact OwnI.nil _ _
  · obtain ⟨h1, h2, h3⟩ := okPl_iff.1 hg
    have H1 : Hid (plN t xs = (xs.length : Int)) := by simp [Hid, plN, hg]
    have H2 : Hid (plL t xs = pls xs t xs.length) := by simp [Hid, plL, hg]
    have HBD := Lib.hid (fun k (hk : k < xs.length) => allB_nth h3 hk)
    have ⟨t0, t1⟩ := inB_iff.1 h1
    have HT := Lib.hid h1
    have HA := Lib.hid h3
    have HG := Lib.hid hg
    clear hg h1 h3
    go_enter Try.func76, Try.ntmps76
    go_wp2_with fail
    refine (isThreshold_any _ _).mono ?_
    rw [HT.out]
    rintro e w' ⟨rfl, rfl⟩
    go_wp2_with fail
    refine (hasNo_any _ _ _ _ hx1).mono ?_
    rw [HA.out]
    rintro e w' ⟨rfl, rfl⟩
    have R1 : Var2 (w.alloc (.cells #[.int .i64 0, .slice none 0 0] 32)) w.heap.size (.int .i64 0) (.slice none 0 0) := Var2.new w _ _ _
    obtain ⟨w1, hw1⟩ : ∃ w1, w1 = w.alloc (.cells #[.int .i64 0, .slice none 0 0] 32) := ⟨_, rfl⟩
    have bw1 : Below w.heap.size w w1 := by rw [hw1]; exact (by repeat (first | exact Below.refl _ _ | assumption | refine Below.alloc ?_ (by first | exact Nat.le_refl _ | (simp only [World.size_alloc, World.size_setCell, World.size_drew]; omega) | omega) _ | refine Below.setCell ?_ (by first | exact Nat.le_refl _ | (simp only [World.size_alloc, World.size_setCell, World.size_drew]; omega) | omega) _ | refine Below.drew ?_))
    rw [← hw1] at R1 ⊢
    have hz1' : w.heap.size + 1 ≤ w1.heap.size := by have := R1.1.1; omega
    clear hx1 hw1
    go_wp2_with (at_make; refine wpList_make_full _ rfl (.tmp 25) (.tmp 25) 23 rfl (w.heap.size + 1) 3 i0 (.int .i64 0) 1 Try.underlying23 hi hz0 hz1 .i64 .i64 _ _ xs.length rfl rfl rfl rfl (by rw [hz2]; omega) (by unfold maxLen; omega) hz1' ?_; intro w2 hown hgrow)
    have R2 := R1.kept hgrow (by simp)
    have hb2 : Below w.heap.size w w2 := bw1.grown hgrow bw1.size (fun k h => by cases h)
    have hown0 := made_row (plE xs t) hown
    obtain ⟨g, hg⟩ : ∃ g, g = w1.heap.size := ⟨_, rfl⟩
    rw [← hg] at hown0 ⊢
    have hgz : w.heap.size + 1 ≤ g := by omega
    clear hown hgrow R1 hg
    go_wp2_with fail
    go_loopw [29] (fun i wr => ∃ k : Nat, k ≤ xs.length ∧ i = .int .i64 k ∧ OwnI wr (w.heap.size + 1) (.slice (some ⟨g, 0, none⟩) xs.length xs.length) (rowF (plE xs t) xs.length k) ∧ Below w.heap.size w wr ∧ Var2 wr w.heap.size (.int .i64 0) (.slice none 0 0)) (fun i _ => xs.length - (intOf i).toNat)
    case atStart => exact ⟨0, Nat.zero_le _, rfl, hown0, hb2, R2⟩
    case round =>
      obtain ⟨k, hk, rfl, hown, hb, hR⟩ := hrel
      have hzr := hb.size
      by_cases hlt : k < xs.length
      · obtain ⟨b, off, rfl, hbl, hc1⟩ := (hx.below hb).cell k hlt
        have k0 : (0 : Int) ≤ (k : Int) := by omega
        have k1 : (k : Int) < (xs.length : Int) := by omega
        have ⟨v0, v1⟩ := HBD.out k hlt
        go_wp2_with fail
        go_loopw [36] (fun i' wi => ∃ j : Nat, j ≤ xs.length ∧ i' = .int .i64 j ∧ OwnI wi (w.heap.size + 1) (.slice (some ⟨g, 0, none⟩) xs.length xs.length) ((rowF (plE xs t) xs.length k).set k ((geTo xs (nth xs k + t) j : Nat) : Int)) ∧ Below w.heap.size w wi ∧ Var2 wi w.heap.size (.int .i64 0) (.slice none 0 0)) (fun i _ => xs.length - (intOf i).toNat)
        case atStart => exact ⟨0, Nat.zero_le _, rfl, by rw [geTo, show (((0 : Nat) : Nat) : Int) = 0 from rfl, rowF_zero _ hlt]; exact hown, hb, hR⟩
        case round =>
          obtain ⟨j, hj, rfl, hown, hb, hR⟩ := hrel
          by_cases hjl : j < xs.length
          · obtain ⟨b2, off2, e2, hbl2, hc2⟩ := (hx.below hb).cell j hjl
            simp only [Option.some.injEq, Addr.mk.injEq, and_true] at e2
            obtain ⟨rfl, rfl⟩ := e2
            obtain ⟨row, hrow⟩ : ∃ row, row = (rowF (plE xs t) xs.length k).set k ((geTo xs (nth xs k + t) j : Nat) : Int) := ⟨_, rfl⟩
            have hrl : row.length = xs.length := by rw [hrow, List.length_set, rowF_len _ hk]
            have hrk : nth row k = ((geTo xs (nth xs k + t) j : Nat) : Int) := by rw [hrow, nth_set (by rw [rowF_len _ hk]; exact hlt), if_pos rfl]
            have hrs : ∀ y, row.set k y = (rowF (plE xs t) xs.length k).set k y := by intro y; rw [hrow, List.set_set]
            rw [← hrow] at hown
            have ⟨ci, fi⟩ := hown.at' hrl.symm (i := k) (by omega)
            rw [hrk] at ci
            have hput := hown.put hrl.symm k ((geTo xs (nth xs k + t) j ||| 2 ^ j : Nat) : Int)
            rw [hrs] at hput
            have hps := geTo_small xs (nth xs k + t) (k := j) (by omega)
            have hor := or_bit (b := geTo xs (nth xs k + t) j) (k := j) (by omega) (by omega)
            have HO := Lib.hid hor
            have HP := Lib.hid hput
            have HR := Lib.hid hrow
            have j0 : (0 : Int) ≤ (j : Int) := by omega
            have j1 : (j : Int) < 62 := by omega
            clear hor hps hput hrow hrl hrk hrs
            by_cases hle : nth xs k + t ≤ nth xs j
            · have HGE : Hid (geTo xs (nth xs k + t) (j+1) = geTo xs (nth xs k + t) j ||| 2 ^ j) := by rw [Hid, geTo, if_pos hle]
              go_wp2_with fail
              go_region
              all_goals
                go_wp2_with fail
                go_roundw
                case rel =>
                  rw [HO.out]
                  refine ⟨j + 1, by omega, by go_num, ?_, (hb.setCell (p := ⟨g, k, none⟩) (show w.heap.size ≤ g by omega) _).drew, hR.other (p := ⟨g, k, none⟩) _ (show w.heap.size ≠ g by omega)⟩
                  rw [HGE.out]
                  exact HP.out.1
                case measure => simp [intOf]; omega
            · have HGE : Hid (geTo xs (nth xs k + t) (j+1) = geTo xs (nth xs k + t) j) := by rw [Hid, geTo, if_neg hle]
              go_wp2_with fail
              go_roundw
              case rel => exact ⟨j + 1, by omega, by go_num, by rw [HGE.out, ← HR.out]; exact hown, hb, hR⟩
              case measure => simp [intOf]; omega
          · obtain rfl : j = xs.length := by omega
            have hnext : (rowF (plE xs t) xs.length k).set k ((geTo xs (nth xs k + t) xs.length : Nat) : Int) = rowF (plE xs t) xs.length (k + 1) := by
              rw [← rowF_set _ hlt, plE]
            rw [hnext] at hown
            have HN := Lib.hid hown
            clear hnext hown
            go_wp2_with fail
            go_roundw
            case rel => exact ⟨k + 1, by omega, by go_num, HN.out, hb, hR⟩
            case measure => simp [intOf]; omega
      · obtain rfl : k = xs.length := by omega
        rw [rowF_end] at hown
        have ho : OwnI wr (w.heap.size + 1) (.slice (some ⟨g, 0, none⟩) xs.length xs.length) (pls xs t xs.length) := hown
        have ⟨⟨zR, cR, dR⟩, fR, gR⟩ := hR
        clear hown
        go_wp2_with fail
        have R3 := hR.set (.int .i64 (xs.length : Int)) (.slice (some ⟨g, 0, none⟩) xs.length xs.length)
        refine bodyPost_ret (v := .tuple #[.agg #[.int .i64 (xs.length : Int), .slice (some ⟨g, 0, none⟩) xs.length xs.length], .bool true]) (by have ⟨⟨_, q1, q2⟩, _, _⟩ := R3; simp [results, Try.results76, go_sem, q1, q2]) rfl ?_
        refine ⟨some ⟨g, 0, none⟩, xs.length, ?_, ?_, ?_⟩
        · rw [H1.out, H2.out, pls_len]
        · rw [H2.out, pls_len]
          exact ((ho.setBelow (p := ⟨w.heap.size, 0, none⟩) (show w.heap.size < w.heap.size + 1 by omega) _).setBelow (p := ⟨w.heap.size, 1, none⟩) (show w.heap.size < w.heap.size + 1 by omega) _).mono (by omega)
        · exact (hb.setCell (p := ⟨w.heap.size, 0, none⟩) (Nat.le_refl _) _).setCell (p := ⟨w.heap.size, 1, none⟩) (Nat.le_refl _) _

/-- the set of all elements above one of those of a set that are less than k -/
def aboveTo (xs : List Int) (s : Int) : Nat → Nat
  | 0 => 0
  | k+1 => if hasB s k then aboveTo xs s k ||| (nth xs k).toNat else aboveTo xs s k
theorem aboveTo_lt {n : Int} {xs : List Int} (hp : RelP n xs) (s : Int) : ∀ k, k ≤ xs.length → aboveTo xs s k < 2 ^ 10
  | 0, _ => by simp [aboveTo]
  | k+1, hk => by
    have h := aboveTo_lt hp s k (by omega)
    have h1 := hp.small k (by omega)
    have h0 := hp.pos k (by omega)
    simp only [aboveTo]
    split
    · exact or_lt h (by omega)
    · exact h
theorem aboveTo_bit (xs : List Int) (s : Int) (j : Nat) : ∀ k, (aboveTo xs s k).testBit j = true ↔ ∃ i, i < k ∧ hasB s i = true ∧ (nth xs i).toNat.testBit j = true
  | 0 => by simp [aboveTo]
  | k+1 => by
    have ih := aboveTo_bit xs s j k
    simp only [aboveTo]
    cases hb : hasB s k
    · rw [if_neg (by simp), ih]
      constructor
      · rintro ⟨i, h1, h2, h3⟩
        exact ⟨i, by omega, h2, h3⟩
      · rintro ⟨i, h1, h2, h3⟩
        have : i ≠ k := fun e => by rw [e, hb] at h2; cases h2
        exact ⟨i, by omega, h2, h3⟩
    · rw [if_pos rfl, Nat.testBit_or, Bool.or_eq_true, ih]
      constructor
      · rintro (⟨i, h1, h2, h3⟩ | h)
        · exact ⟨i, by omega, h2, h3⟩
        · exact ⟨k, by omega, hb, h⟩
      · rintro ⟨i, h1, h2, h3⟩
        by_cases e : i = k
        · subst e; exact .inr h3
        · exact .inl ⟨i, by omega, h2, h3⟩
theorem okAtB_above {xs : List Int} {k : Nat} (h : hasB (nth xs k) k = false) : okAtB xs k = (sub (aboveTo xs (nth xs k) xs.length) (nth xs k).toNat == 0) := by
  rw [Bool.eq_iff_iff, okAtB_iff, beq_iff_eq, sub_zero]
  constructor
  · rintro ⟨_, h2⟩ i hi
    obtain ⟨j, hj, hb, ht⟩ := (aboveTo_bit _ _ _ _).1 hi
    exact sub_zero.1 (h2 j hj hb) i ht
  · intro h2
    refine ⟨h, fun j hj hb => sub_zero.2 (fun i hi => h2 i ((aboveTo_bit _ _ _ _).2 ⟨j, hj, hb, hi⟩))⟩

theorem aboveAny_any (n : Int) (a : Option Addr) (xs : List Int) (cap : Nat) (s : Int) (w : World) (hx : Rd w a xs) (hr : RelP n xs) (h0 : 0 ≤ s) (h1 : s ≤ 9223372036854775807) :
    Calls Try.prog 93 #[.agg #[.int .i64 n, .slice a xs.length cap], .int .i64 s] w fun e w' => e = .returned (.int .i64 (aboveTo xs s xs.length)) ∧ Below w.heap.size w w' := by
  have hx1 := hx.alloc (.cells #[.int .i64 n, .slice a xs.length cap] 32)
  obtain rfl : n = (xs.length : Int) := hr.len.symm
  have hn : xs.length ≤ 10 := by have := hr.n1; omega
  go_enter Try.func93, Try.ntmps93
  go_wp2_with fail
  go_loop [5, 9] (fun s' i' => ∃ k : Nat, k ≤ xs.length ∧ i' = .int .i64 k ∧ s' = .int .i64 (aboveTo xs s k)) (fun _ i => xs.length - (intOf i).toNat)
  case atStart => exact ⟨0, Nat.zero_le _, rfl, rfl⟩
  case round =>
    obtain ⟨k, hk, rfl, rfl⟩ := hrel
    by_cases hlt : k < xs.length
    · obtain ⟨b, off, rfl, hbl, hc⟩ := hx1.cell k hlt
      obtain ⟨b', off', e', hbl', hc'⟩ := hx.cell k hlt
      simp only [Option.some.injEq, Addr.mk.injEq, and_true] at e'
      obtain ⟨rfl, rfl⟩ := e'
      have hpk := hr.pos k hlt
      have hsk := hr.small k hlt
      have hab := aboveTo_lt hr s k hk
      have hor := Lib.hid (or_i (a := (aboveTo xs s k : Nat)) (b := nth xs k) (by omega) (by omega) hpk (by omega))
      clear hab
      cases hin : hasB s k
      · go_wp2_with (go_at_call 92; refine (hasElement_any _ _ _ h0 h1 (by omega)).mono ?_; rintro e w' ⟨rfl, rfl⟩)
        go_round
        case rel => exact ⟨k + 1, by omega, by go_num, by simp [aboveTo, hin]⟩
        case measure => simp [intOf]; omega
      · go_wp2_with (go_at_call 92; refine (hasElement_any _ _ _ h0 h1 (by omega)).mono ?_; rintro e w' ⟨rfl, rfl⟩)
        go_round
        case rel => exact ⟨k + 1, by omega, by go_num, val_int (by rw [hor.out]; simp [aboveTo, hin])⟩
        case measure => simp [intOf]; omega
    · obtain rfl : k = xs.length := by omega
      go_wp2_with fail
      go_ret
      exact ⟨rfl, (by repeat (first | exact Below.refl _ _ | assumption | refine Below.alloc ?_ (by first | exact Nat.le_refl _ | (simp only [World.size_alloc, World.size_setCell, World.size_drew]; omega) | omega) _ | refine Below.setCell ?_ (by first | exact Nat.le_refl _ | (simp only [World.size_alloc, World.size_setCell, World.size_drew]; omega) | omega) _ | refine Below.drew ?_))⟩

theorem fullSet_any (n : Int) (w : World) (h0 : 0 ≤ n) (h1 : n ≤ 10) :
    Calls Try.prog 130 #[.int .i64 n] w fun e w' => e = .returned (.int .i64 (2 ^ n.toNat - 1)) ∧ w = w' := by
  have hf := Lib.hid (full_eq h0 h1)
  go_enter Try.func130, Try.ntmps130
  go_wp2
  go_ret
  exact ⟨ret_int hf.out, rfl⟩

theorem isSet_any (s n : Int) (w : World) (h0' : 0 ≤ n) (h1' : n ≤ 10) :
    Calls Try.prog 125 #[.int .i64 s, .int .i64 n] w fun e w' => e = .returned (.bool (inB s 0 (2 ^ n.toNat - 1))) ∧ w = w' := by
  by_cases h0 : 0 ≤ s
  · by_cases h1 : s ≤ 2 ^ n.toNat - 1
    · have hf := Lib.hid (inB_iff.2 ⟨h0, h1⟩)
      go_enter Try.func125, Try.ntmps125
      go_wp2_with (go_at_call 130; refine (fullSet_any _ _ h0' h1').mono ?_; rintro e w' ⟨rfl, rfl⟩)
      go_ret
      exact ⟨ret_bool (by rw [hf.out]; try simp [h1]), rfl⟩
    · have hf := Lib.hid (inB_no (lo := 0).2 (.inr (show 2 ^ n.toNat - 1 < s by omega)))
      go_enter Try.func125, Try.ntmps125
      go_wp2_with (go_at_call 130; refine (fullSet_any _ _ h0' h1').mono ?_; rintro e w' ⟨rfl, rfl⟩)
      go_ret
      exact ⟨ret_bool (by rw [hf.out]; try simp [h1]), rfl⟩
  · have hf := Lib.hid (inB_no (hi := 2 ^ n.toNat - 1).2 (.inl (show s < 0 by omega)))
    go_enter Try.func125, Try.ntmps125
    go_wp2_with fail
    go_ret
    exact ⟨ret_bool (by rw [hf.out]; try simp [h1]), rfl⟩

theorem areSets_any (a : Option Addr) (xs : List Int) (cap : Nat) (n : Int) (w : World) (hx : Rd w a xs) (h0' : 0 ≤ n) (h1' : n ≤ 10) :
    Calls Try.prog 115 #[.slice a xs.length cap, .int .i64 n] w fun e w' => e = .returned (.bool (allB xs 0 (2 ^ n.toNat - 1))) ∧ w = w' := by
  have hlen := hx.len
  go_enter Try.func115, Try.ntmps115
  go_wp2_with fail
  go_loop [9] (fun i => ∃ k : Nat, k ≤ xs.length ∧ i = .int .i64 k ∧ allB (xs.take k) 0 (2 ^ n.toNat - 1) = true) (fun i => xs.length - (intOf i).toNat)
  case atStart => exact ⟨0, Nat.zero_le _, rfl, rfl⟩
  case round =>
    obtain ⟨k, hk, rfl, hall⟩ := hrel
    by_cases hlt : k < xs.length
    · obtain ⟨b, off, rfl, hbl, hc⟩ := hx.cell k hlt
      cases hin : inB (nth xs k) 0 (2 ^ n.toNat - 1)
      · have hf := Lib.hid (allB_false hlt hin)
        go_wp2_with (go_at_call 125; refine (isSet_any _ _ _ h0' h1').mono ?_; rintro e w' ⟨rfl, rfl⟩)
        go_ret
        exact ⟨ret_bool hf.out.symm, rfl⟩
      · go_wp2_with (go_at_call 125; refine (isSet_any _ _ _ h0' h1').mono ?_; rintro e w' ⟨rfl, rfl⟩)
        go_round
        case rel => exact ⟨k + 1, by omega, by go_num, by rw [allB_take _ _ _ _ hlt, hall, hin]; rfl⟩
        case measure => simp [intOf]; omega
    · go_wp2_with fail
      go_ret
      exact ⟨ret_bool (by rw [← hall, List.take_of_length_le (by omega)]), rfl⟩

theorem iIsRelation_any (n : Int) (a : Option Addr) (xs : List Int) (cap : Nat) (w : World) (_hn : -9223372036854775808 ≤ n ∧ n ≤ 9223372036854775807) (hx : Rd w a xs) :
    Calls Try.prog 91 #[.agg #[.int .i64 n, .slice a xs.length cap]] w fun e w' => e = .returned (.bool (relB n xs)) ∧ Below w.heap.size w w' := by
  have hx1 := hx.alloc (.cells #[.int .i64 n, .slice a xs.length cap] 32)
  have hlen := hx.len
  by_cases h0 : 0 ≤ n
  · by_cases h1 : n ≤ 10
    · cases h2 : ((xs.length : Int) == n)
      · have HR : Hid (relB n xs = false) := by
          have : ¬ (xs.length : Int) = n := by simpa using h2
          simp [Hid, relB, this]
        go_enter Try.func91, Try.ntmps91
        go_wp2_with fail
        go_ret
        exact ⟨ret_bool HR.out.symm, (by repeat (first | exact Below.refl _ _ | assumption | refine Below.alloc ?_ (by first | exact Nat.le_refl _ | (simp only [World.size_alloc, World.size_setCell, World.size_drew]; omega) | omega) _ | refine Below.setCell ?_ (by first | exact Nat.le_refl _ | (simp only [World.size_alloc, World.size_setCell, World.size_drew]; omega) | omega) _ | refine Below.drew ?_))⟩
      · have HR : Hid (relB n xs = allB xs 0 (2 ^ n.toNat - 1)) := by
          have : (xs.length : Int) = n := by simpa using h2
          simp [Hid, relB, inB, h0, h1, this]
        go_enter Try.func91, Try.ntmps91
        go_wp2_with fail
        refine (areSets_any _ _ _ _ _ hx1 h0 h1).mono ?_
        rintro e w' ⟨rfl, rfl⟩
        go_wp2_with fail
        go_ret
        exact ⟨ret_bool HR.out.symm, (by repeat (first | exact Below.refl _ _ | assumption | refine Below.alloc ?_ (by first | exact Nat.le_refl _ | (simp only [World.size_alloc, World.size_setCell, World.size_drew]; omega) | omega) _ | refine Below.setCell ?_ (by first | exact Nat.le_refl _ | (simp only [World.size_alloc, World.size_setCell, World.size_drew]; omega) | omega) _ | refine Below.drew ?_))⟩
    · have HR : Hid (relB n xs = false) := by simp [Hid, relB, inB]; omega
      go_enter Try.func91, Try.ntmps91
      go_wp2_with fail
      go_ret
      exact ⟨ret_bool HR.out.symm, (by repeat (first | exact Below.refl _ _ | assumption | refine Below.alloc ?_ (by first | exact Nat.le_refl _ | (simp only [World.size_alloc, World.size_setCell, World.size_drew]; omega) | omega) _ | refine Below.setCell ?_ (by first | exact Nat.le_refl _ | (simp only [World.size_alloc, World.size_setCell, World.size_drew]; omega) | omega) _ | refine Below.drew ?_))⟩
  · have HR : Hid (relB n xs = false) := by simp [Hid, relB, inB]; omega
    go_enter Try.func91, Try.ntmps91
    go_wp2_with fail
    go_ret
    exact ⟨ret_bool HR.out.symm, (by repeat (first | exact Below.refl _ _ | assumption | refine Below.alloc ?_ (by first | exact Nat.le_refl _ | (simp only [World.size_alloc, World.size_setCell, World.size_drew]; omega) | omega) _ | refine Below.setCell ?_ (by first | exact Nat.le_refl _ | (simp only [World.size_alloc, World.size_setCell, World.size_drew]; omega) | omega) _ | refine Below.drew ?_))⟩

theorem iIsOrder_any (n : Int) (a : Option Addr) (xs : List Int) (cap : Nat) (w : World) (hn : -9223372036854775808 ≤ n ∧ n ≤ 9223372036854775807) (hx : Rd w a xs) :
    Calls Try.prog 57 #[.agg #[.int .i64 n, .slice a xs.length cap]] w fun e w' => e = .returned (.bool (ordB n xs)) ∧ Below w.heap.size w w' := by
  have hx1 := hx.alloc (.cells #[.int .i64 n, .slice a xs.length cap] 32)
  have hlen := hx.len
  cases hr : relB n xs
  · have HR : Hid (ordB n xs = false) := by simp [Hid, ordB, hr]
    go_enter Try.func57, Try.ntmps57
    go_wp2_with fail
    refine (iIsRelation_any _ _ _ _ _ hn hx1).mono ?_
    rintro e w1 ⟨rfl, hb1⟩
    go_wp2_with fail
    go_ret
    exact ⟨ret_bool HR.out.symm, Below.trans (by repeat (first | exact Below.refl _ _ | assumption | refine Below.alloc ?_ (by first | exact Nat.le_refl _ | (simp only [World.size_alloc, World.size_setCell, World.size_drew]; omega) | omega) _ | refine Below.setCell ?_ (by first | exact Nat.le_refl _ | (simp only [World.size_alloc, World.size_setCell, World.size_drew]; omega) | omega) _ | refine Below.drew ?_)) (hb1.mono (by first | (simp only [World.size_alloc, World.size_setCell, World.size_drew]; omega) | omega))⟩
  · have hp := relB_p hr
    go_enter Try.func57, Try.ntmps57
    go_wp2_with fail
    refine (iIsRelation_any _ _ _ _ _ hn hx1).mono ?_
    rintro e w1 ⟨rfl, hb1⟩
    have B1 := (Box2.new w _ _ _).below hb1
    have ⟨z1, c1, d1⟩ := B1
    have bw1 : Below w.heap.size w w1 := Below.trans (by repeat (first | exact Below.refl _ _ | assumption | refine Below.alloc ?_ (by first | exact Nat.le_refl _ | (simp only [World.size_alloc, World.size_setCell, World.size_drew]; omega) | omega) _ | refine Below.setCell ?_ (by first | exact Nat.le_refl _ | (simp only [World.size_alloc, World.size_setCell, World.size_drew]; omega) | omega) _ | refine Below.drew ?_)) (hb1.mono (by first | (simp only [World.size_alloc, World.size_setCell, World.size_drew]; omega) | omega))
    have HR := Lib.hid hr
    clear hb1
    go_wp2_with fail
    clear hr
    go_loopw [11] (fun i wr => ∃ k : Nat, k ≤ xs.length ∧ i = .int .i64 k ∧ (∀ j, j < k → okAtB xs j = true) ∧ Below w1.heap.size w1 wr) (fun i _ => xs.length - (intOf i).toNat)
    case atStart => exact ⟨0, Nat.zero_le _, rfl, fun j hj => by omega, Below.refl _ _⟩
    case round =>
      obtain ⟨k, hk, rfl, hall, hb⟩ := hrel
      have ⟨zr, cr, dr⟩ := B1.below hb
      have bwr := bw1.trans (hb.mono bw1.size)
      have HA := Lib.hid hall
      clear hall c1 d1
      by_cases hlt : k < xs.length
      · obtain ⟨b, off, rfl, hbl, hc⟩ := (hx.below bwr).cell k hlt
        have hpk := hp.pos k hlt
        have hsk := hp.small k hlt
        have hsk' : nth xs k ≤ 9223372036854775807 := by omega
        cases hin : hasB (nth xs k) k
        · have hab := aboveTo_lt hp (nth xs k) xs.length (Nat.le_refl _)
          have hsub := sub_i (a := (aboveTo xs (nth xs k) xs.length : Nat)) (b := nth xs k) (by omega) (by omega) hpk (by omega)
          have hok := okAtB_above hin
          rw [Int.toNat_natCast] at hsub
          cases hok2 : okAtB xs k
          · rw [hok2] at hok
            have hne : (bits BinOp.andNot IntKind.i64 ((aboveTo xs (nth xs k) xs.length : Nat) : Int) (nth xs k) != 0) = true := by
              rw [hsub]
              simpa using hok.symm
            have HN := Lib.hid (ordB_no (n := n) hlt hok2)
            clear hok2 hok hsub hab
            go_wp2_with fail
            refine (hasElement_any _ _ _ hpk hsk' (by omega)).mono ?_
            rintro e w' ⟨rfl, rfl⟩
            go_wp2_with fail
            refine (aboveAny_any _ _ _ _ _ _ (hx.below bwr) hp hpk hsk').mono ?_
            rintro e w2 ⟨rfl, hb2⟩
            go_wp2_with fail
            go_ret
            exact ⟨ret_bool HN.out.symm, bwr.trans (hb2.mono bwr.size)⟩
          · rw [hok2] at hok
            have hne : (bits BinOp.andNot IntKind.i64 ((aboveTo xs (nth xs k) xs.length : Nat) : Int) (nth xs k) != 0) = false := by
              rw [hsub]
              simpa using hok.symm
            have HN := Lib.hid hok2
            clear hok2 hok hsub hab
            go_wp2_with fail
            refine (hasElement_any _ _ _ hpk hsk' (by omega)).mono ?_
            rintro e w' ⟨rfl, rfl⟩
            go_wp2_with fail
            refine (aboveAny_any _ _ _ _ _ _ (hx.below bwr) hp hpk hsk').mono ?_
            rintro e w2 ⟨rfl, hb2⟩
            go_wp2_with fail
            go_roundw
            case rel =>
              refine ⟨k + 1, by omega, by go_num, fun j hj => ?_, hb.trans (hb2.mono hb.size)⟩
              by_cases e : j = k
              · rw [e]; exact HN.out
              · exact HA.out j (by omega)
            case measure => simp [intOf]; omega
        · have HN := Lib.hid (ordB_no (n := n) hlt (okAtB_has hin))
          go_wp2_with fail
          refine (hasElement_any _ _ _ hpk hsk' (by omega)).mono ?_
          rintro e w' ⟨rfl, rfl⟩
          go_wp2_with fail
          go_ret
          exact ⟨ret_bool HN.out.symm, bwr⟩
      · obtain rfl : k = xs.length := by omega
        go_wp2_with fail
        go_ret
        exact ⟨ret_bool (ordB_iff.2 ⟨HR.out, HA.out⟩).symm, bwr⟩

theorem sliceEqual_any (a b : Option Addr) (xs ys : List Int) (ca cb : Nat) (w : World) (hx : Rd w a xs) (hy : Rd w b ys) :
    Calls Try.prog 58 #[.slice a xs.length ca, .slice b ys.length cb] w fun e w' => e = .returned (.bool (eqL xs ys)) ∧ Below w.heap.size w w' := by
  have hlx := hx.len
  have hly := hy.len
  by_cases hl : xs.length = ys.length
  · have hl' : ((xs.length : Int) != (ys.length : Int)) = false := by simp [hl]
    go_enter Try.func58, Try.ntmps58
    have HL := Lib.hid hl
    clear hl
    go_wp2_with fail
    go_loopw [13] (fun i wr => ∃ k : Nat, k ≤ xs.length ∧ i = .int .i64 k ∧ xs.take k = ys.take k ∧ Below w.heap.size w wr) (fun i _ => xs.length - (intOf i).toNat)
    case atStart => exact ⟨0, Nat.zero_le _, rfl, rfl, Below.refl _ _⟩
    case round =>
      obtain ⟨k, hk, rfl, htk, hb⟩ := hrel
      have HT := Lib.hid htk
      clear htk
      by_cases hlt : k < xs.length
      · have hlt' : k < ys.length := by rw [← HL.out]; exact hlt
        obtain ⟨b1, o1, rfl, hb1, hc1⟩ := (hx.below hb).cell k hlt
        obtain ⟨b2, o2, rfl, hb2, hc2⟩ := (hy.below hb).cell k hlt'
        by_cases he : nth xs k = nth ys k
        · have he' : (nth xs k != nth ys k) = false := by simp [he]
          have HE := Lib.hid he
          clear he
          go_wp2_with fail
          go_quiet (fail)
          go_wp2_with fail
          go_roundw
          case rel =>
            refine ⟨k + 1, by omega, by go_num, ?_, by exact hb.trans (Joins.below_draws _ _ _)⟩
            rw [List.take_succ_eq_append_getElem hlt, List.take_succ_eq_append_getElem hlt', HT.out, ← nth_get, ← nth_get, HE.out]
          case measure => simp [intOf]; omega
        · have he' : (nth xs k != nth ys k) = true := by simp [he]
          have hne : eqL xs ys = false := by
            simp only [eqL, decide_eq_false_iff_not]
            intro e
            subst e
            exact he rfl
          have HN := Lib.hid hne
          clear he hne
          go_wp2_with fail
          go_quiet (fail)
          go_wp2_with fail
          go_ret
          exact ⟨ret_bool HN.out.symm, hb.trans (Joins.below_draws _ _ _)⟩
      · go_wp2_with fail
        go_ret
        refine ⟨ret_bool ?_, hb⟩
        have h1 := HT.out
        rw [List.take_of_length_le (by omega), List.take_of_length_le (by rw [← HL.out]; omega)] at h1
        simp [eqL, h1]
  · have hl' : ((xs.length : Int) != (ys.length : Int)) = true := by simp; omega
    have hne : eqL xs ys = false := by
      simp only [eqL, decide_eq_false_iff_not]
      intro e
      exact hl (by rw [e])
    have HN := Lib.hid hne
    clear hl hne
    go_enter Try.func58, Try.ntmps58
    go_wp2_with fail
    go_ret
    exact ⟨ret_bool HN.out.symm, Below.refl _ _⟩

theorem iIsPlaces_any (n : Int) (a : Option Addr) (xs : List Int) (cap : Nat) (t : Int) (a1 : Option Addr) (ps : List Int) (cap1 : Nat) (w : World) (hn : -9223372036854775808 ≤ n ∧ n ≤ 9223372036854775807) (hx : Rd w a xs) (ht : -9223372036854775808 ≤ t ∧ t ≤ 9223372036854775807) (hy : Rd w a1 ps) :
    Calls Try.prog 40 #[.agg #[.int .i64 n, .slice a xs.length cap], .int .i64 t, .slice a1 ps.length cap1] w fun e w' => e = .returned (.tuple #[.bool (plB n xs t ps), .bool (plOk n xs t)]) ∧ Below w.heap.size w w' := by
  have hx1 := hx.alloc (.cells #[.int .i64 n, .slice a xs.length cap] 32)
  cases hr : ordB n xs
  · have H0 : Hid (plOk n xs t = false) := by simp [Hid, plOk, hr]
    have H1 : Hid (plB n xs t ps = false) := by simp [Hid, plB, H0.out]
    go_enter Try.func40, Try.ntmps40
    go_wp2_with fail
    refine (iIsOrder_any _ _ _ _ _ hn hx1).mono ?_
    rw [hr]
    rintro e w1 ⟨rfl, hb1⟩
    have bw1 : Below w.heap.size w w1 := Below.trans (by repeat (first | exact Below.refl _ _ | assumption | refine Below.alloc ?_ (by first | exact Nat.le_refl _ | (simp only [World.size_alloc, World.size_setCell, World.size_drew]; omega) | omega) _ | refine Below.setCell ?_ (by first | exact Nat.le_refl _ | (simp only [World.size_alloc, World.size_setCell, World.size_drew]; omega) | omega) _ | refine Below.drew ?_)) (hb1.mono (by first | (simp only [World.size_alloc, World.size_setCell, World.size_drew]; omega) | omega))
    go_wp2_with fail
    go_ret2
    exact ⟨ret_bb H1.out.symm H0.out.symm, bw1⟩
  · have hp := ord_rel hr
    cases hT : thB t
    · have H0 : Hid (plOk n xs t = false) := by simp [Hid, plOk, hT]
      have H1 : Hid (plB n xs t ps = false) := by simp [Hid, plB, H0.out]
      have HT := Lib.hid hT
      have HR := Lib.hid hr
      clear hT hr
      go_enter Try.func40, Try.ntmps40
      go_wp2_with fail
      refine (iIsOrder_any _ _ _ _ _ hn hx1).mono ?_
      rw [HR.out]
      rintro e w1 ⟨rfl, hb1⟩
      have bw1 : Below w.heap.size w w1 := Below.trans (by repeat (first | exact Below.refl _ _ | assumption | refine Below.alloc ?_ (by first | exact Nat.le_refl _ | (simp only [World.size_alloc, World.size_setCell, World.size_drew]; omega) | omega) _ | refine Below.setCell ?_ (by first | exact Nat.le_refl _ | (simp only [World.size_alloc, World.size_setCell, World.size_drew]; omega) | omega) _ | refine Below.drew ?_)) (hb1.mono (by first | (simp only [World.size_alloc, World.size_setCell, World.size_drew]; omega) | omega))
      go_wp2_with fail
      refine (isThreshold_any _ _).mono ?_
      rw [HT.out]
      rintro e w' ⟨rfl, rfl⟩
      go_wp2_with fail
      go_ret2
      exact ⟨ret_bb H1.out.symm H0.out.symm, bw1⟩
    · have H0 : Hid (plOk n xs t = true) := by simp [Hid, plOk, hT, hr]
      have HT := Lib.hid hT
      have HR := Lib.hid hr
      clear hT
      cases hg : okPl t ps
      · have H1 : Hid (plB n xs t ps = false) := by simp [Hid, plB, hg]
        have H2 : Hid (plN t ps = 0) := by simp [Hid, plN, hg]
        have H3 : Hid (plL t ps = []) := by simp [Hid, plL, hg]
        have HG := Lib.hid hg
        clear hg hr
        go_enter Try.func40, Try.ntmps40
        go_wp2_with fail
        refine (iIsOrder_any _ _ _ _ _ hn hx1).mono ?_
        rw [HR.out]
        rintro e w1 ⟨rfl, hb1⟩
        have bw1 : Below w.heap.size w w1 := Below.trans (by repeat (first | exact Below.refl _ _ | assumption | refine Below.alloc ?_ (by first | exact Nat.le_refl _ | (simp only [World.size_alloc, World.size_setCell, World.size_drew]; omega) | omega) _ | refine Below.setCell ?_ (by first | exact Nat.le_refl _ | (simp only [World.size_alloc, World.size_setCell, World.size_drew]; omega) | omega) _ | refine Below.drew ?_)) (hb1.mono (by first | (simp only [World.size_alloc, World.size_setCell, World.size_drew]; omega) | omega))
        clear hb1
        go_wp2_with fail
        refine (isThreshold_any _ _).mono ?_
        rw [HT.out]
        rintro e w' ⟨rfl, rfl⟩
        go_wp2_with fail
        refine (iOrderOfPl_any _ _ _ _ _ ht (hy.below bw1)).mono ?_
        rw [HG.out, H2.out, H3.out]
        rintro e w2 ⟨p2, q2, rfl, ho2, hb2⟩
        have bw2 := bw1.trans (hb2.mono bw1.size)
        clear ho2
        go_wp2_with fail
        go_ret2
        exact ⟨ret_bb H1.out.symm H0.out.symm, bw2.alloc bw2.size _⟩
      · have H1 : Hid (plB n xs t ps = eqL (pls ps t ps.length) xs) := by simp [Hid, plB, H0.out, hg]
        have H2 : Hid (plN t ps = (ps.length : Int)) := by simp [Hid, plN, hg]
        have H3 : Hid (plL t ps = pls ps t ps.length) := by simp [Hid, plL, hg]
        have HG := Lib.hid hg
        clear hg hr
        go_enter Try.func40, Try.ntmps40
        go_wp2_with fail
        refine (iIsOrder_any _ _ _ _ _ hn hx1).mono ?_
        rw [HR.out]
        rintro e w1 ⟨rfl, hb1⟩
        have A1 : Box2 w1 w.heap.size (.int .i64 n) (.slice a xs.length cap) := (Box2.new w _ _ _).below hb1
        have bw1 : Below w.heap.size w w1 := Below.trans (by repeat (first | exact Below.refl _ _ | assumption | refine Below.alloc ?_ (by first | exact Nat.le_refl _ | (simp only [World.size_alloc, World.size_setCell, World.size_drew]; omega) | omega) _ | refine Below.setCell ?_ (by first | exact Nat.le_refl _ | (simp only [World.size_alloc, World.size_setCell, World.size_drew]; omega) | omega) _ | refine Below.drew ?_)) (hb1.mono (by first | (simp only [World.size_alloc, World.size_setCell, World.size_drew]; omega) | omega))
        clear hb1
        go_wp2_with fail
        refine (isThreshold_any _ _).mono ?_
        rw [HT.out]
        rintro e w' ⟨rfl, rfl⟩
        go_wp2_with fail
        refine (iOrderOfPl_any _ _ _ _ _ ht (hy.below bw1)).mono ?_
        rw [HG.out, H2.out, H3.out]
        unfold GotO
        rw [pls_len]
        rintro e w2 ⟨p2, q2, rfl, ho2, hb2⟩
        have bw2 := bw1.trans (hb2.mono bw1.size)
        have A2 := A1.below hb2
        have ⟨zA, cA, dA⟩ := A2
        have hr2 : Rd (w2.alloc (.cells #[.int .i64 (ps.length : Int), .slice p2 ps.length q2] 32)) p2 (pls ps t ps.length) := ho2.rd.alloc _
        have hse := sliceEqual_any p2 a (pls ps t ps.length) xs q2 cap (w2.alloc (.cells #[.int .i64 (ps.length : Int), .slice p2 ps.length q2] 32)) hr2 ((hx.below bw2).alloc _)
        rw [pls_len] at hse
        have HSE := Lib.hid hse
        clear ho2 A1 hse hr2
        go_wp2_with fail
        refine HSE.out.mono ?_
        rintro e w3 ⟨rfl, hb3⟩
        have ht3 : Below w2.heap.size w2 w3 := Below.trans (by repeat (first | exact Below.refl _ _ | assumption | refine Below.alloc ?_ (by first | exact Nat.le_refl _ | (simp only [World.size_alloc, World.size_setCell, World.size_drew]; omega) | omega) _ | refine Below.setCell ?_ (by first | exact Nat.le_refl _ | (simp only [World.size_alloc, World.size_setCell, World.size_drew]; omega) | omega) _ | refine Below.drew ?_)) (hb3.mono (by first | (simp only [World.size_alloc, World.size_setCell, World.size_drew]; omega) | omega))
        go_wp2_with fail
        go_ret2
        exact ⟨ret_bb H1.out.symm H0.out.symm, bw2.trans (ht3.mono bw2.size)⟩

set_option maxRecDepth 100000 in
theorem iSlack_any (n : Int) (a : Option Addr) (xs : List Int) (cap : Nat) (t : Int) (a1 : Option Addr) (ps : List Int) (cap1 : Nat) (w : World) (hn : -9223372036854775808 ≤ n ∧ n ≤ 9223372036854775807) (hx : Rd w a xs) (ht : -9223372036854775808 ≤ t ∧ t ≤ 9223372036854775807) (hy : Rd w a1 ps) :
    Calls Try.prog 48 #[.agg #[.int .i64 n, .slice a xs.length cap], .int .i64 t, .slice a1 ps.length cap1] w fun e w' => e = .returned (.tuple #[.int .i64 (skR n xs t ps), .bool (skO n xs t ps)]) ∧ Below w.heap.size w w' := by
  have hx1 := hx.alloc (.cells #[.int .i64 n, .slice a xs.length cap] 32)
  have hy1 := hy.alloc (.cells #[.int .i64 n, .slice a xs.length cap] 32)
  cases hq : plB n xs t ps
  · have H0 : Hid (skO n xs t ps = false) := by simp [Hid, skO, hq]
    have H1 : Hid (skR n xs t ps = 0) := by rw [Hid, skR, if_neg (by rw [H0.out]; simp)]
    have HQ := Lib.hid hq
    clear hq
    go_enter Try.func48, Try.ntmps48
    go_wp2_with fail
    refine (iIsPlaces_any _ _ _ _ _ _ _ _ _ hn hx1 ht hy1).mono ?_
    rw [HQ.out]
    rintro e w1 ⟨rfl, hb1⟩
    have bw1 : Below w.heap.size w w1 := Below.trans (by repeat (first | exact Below.refl _ _ | assumption | refine Below.alloc ?_ (by first | exact Nat.le_refl _ | (simp only [World.size_alloc, World.size_setCell, World.size_drew]; omega) | omega) _ | refine Below.setCell ?_ (by first | exact Nat.le_refl _ | (simp only [World.size_alloc, World.size_setCell, World.size_drew]; omega) | omega) _ | refine Below.drew ?_)) (hb1.mono (by first | (simp only [World.size_alloc, World.size_setCell, World.size_drew]; omega) | omega))
    go_wp2_with fail
    go_ret2
    exact ⟨ret_ib H1.out.symm H0.out.symm, bw1⟩
  · have hq2 := hq
    simp only [plB, Bool.and_eq_true, plOk] at hq2
    obtain ⟨⟨⟨hr, hT⟩, hok⟩, hse⟩ := hq2
    have hp := ord_rel hr
    have ⟨t0, t1⟩ := inB_iff.1 (show inB t 1 10 = true from hT)
    obtain rfl : n = (xs.length : Int) := hp.len.symm
    have n10 : xs.length ≤ 10 := by have := hp.n1; omega
    have hpl := pl_len hse
    have hbd : ∀ k, k < xs.length → 0 ≤ nth ps k ∧ nth ps k ≤ 1000 := fun k hk => allB_nth (okPl_iff.1 hok).2.2 (by omega)
    have H0 : Hid (skO (xs.length : Int) xs t ps = decide (0 < (skAll xs t ps xs.length).length)) := by rw [Hid, skO, hq]; rfl
    have HSK := Lib.hid (fun i (hi : i ≤ xs.length) => sk_bd (xs := xs) (ps := ps) t0 t1 hbd hi)
    have HBD := Lib.hid hbd
    have HPL := Lib.hid hpl
    have HQ := Lib.hid hq
    have HLEN := Lib.hid (fun i j hi hj => skAt_len (xs := xs) (t := t) (ps := ps) (i := i) (j := j) n10 hi hj)
    obtain ⟨i0, hi, hz0, hz1, hz2⟩ := info_parts infoInt
    clear hT hr hq hbd hpl hok hse
    go_enter Try.func48, Try.ntmps48
    go_wp2_with fail
    refine (iIsPlaces_any _ _ _ _ _ _ _ _ _ hn hx1 ht hy1).mono ?_
    rw [HQ.out]
    rintro e w1 ⟨rfl, hb1⟩
    have A1 : Box2 w1 w.heap.size (.int .i64 (xs.length : Int)) (.slice a xs.length cap) := (Box2.new w _ _ _).below hb1
    have ⟨zA, cA, dA⟩ := A1
    have bw1 : Below w.heap.size w w1 := Below.trans (by repeat (first | exact Below.refl _ _ | assumption | refine Below.alloc ?_ (by first | exact Nat.le_refl _ | (simp only [World.size_alloc, World.size_setCell, World.size_drew]; omega) | omega) _ | refine Below.setCell ?_ (by first | exact Nat.le_refl _ | (simp only [World.size_alloc, World.size_setCell, World.size_drew]; omega) | omega) _ | refine Below.drew ?_)) (hb1.mono (by first | (simp only [World.size_alloc, World.size_setCell, World.size_drew]; omega) | omega))
    clear hb1 hx1 hy1
    go_wp2_with fail
    refine (demandsOf_any _ _ _ _ _ (hx.below bw1) hp).mono ?_
    rintro e w3 ⟨bo, bt, bb, rfl, hd, hb3⟩
    have bw3 := bw1.trans (hb3.mono bw1.size)
    simp only [demV]
    obtain ⟨p, hp3⟩ : ∃ p, p = w3.heap.size := ⟨_, rfl⟩
    have B3 : Box2 (w3.alloc (.cells #[.int .i64 (xs.length : Int), .func (.func 107) #[] #[.pointer (some ⟨bo, 0, none⟩), .pointer (some ⟨bt, 0, none⟩), .pointer (some ⟨bb, 0, none⟩)]] 88)) p (.int .i64 (xs.length : Int)) (.func (.func 107) #[] #[.pointer (some ⟨bo, 0, none⟩), .pointer (some ⟨bt, 0, none⟩), .pointer (some ⟨bb, 0, none⟩)]) := by rw [hp3]; exact Box2.new w3 _ _ _
    have D3 := hd.below ((Below.refl _ _).alloc (Nat.le_refl _) (.cells #[.int .i64 (xs.length : Int), .func (.func 107) #[] #[.pointer (some ⟨bo, 0, none⟩), .pointer (some ⟨bt, 0, none⟩), .pointer (some ⟨bb, 0, none⟩)]] 88))
    have hpz : w.heap.size ≤ p := by rw [hp3]; exact bw3.size
    have bw4 : Below w.heap.size w (w3.alloc (.cells #[.int .i64 (xs.length : Int), .func (.func 107) #[] #[.pointer (some ⟨bo, 0, none⟩), .pointer (some ⟨bt, 0, none⟩), .pointer (some ⟨bb, 0, none⟩)]] 88)) := bw3.alloc bw3.size _
    have HP3 := Lib.hid hp3
    have hsf : ∀ (W : World) (p : Addr) (f : Fn) (ls : Array Value) (cs : Array Value), (store p (.func f ls cs)).run Try.prog W = stored Try.prog W p (.func f ls cs) .plain := fun W p f ls cs => run_store _ _ _ _ _ rfl
    obtain ⟨W3, hW3⟩ : ∃ W, W = w3.alloc (.cells #[.int .i64 (xs.length : Int), .func (.func 107) #[] #[.pointer (some ⟨bo, 0, none⟩), .pointer (some ⟨bt, 0, none⟩), .pointer (some ⟨bb, 0, none⟩)]] 88) := ⟨_, rfl⟩
    rw [← hW3] at B3 D3 bw4
    have HW3 := Lib.hid hW3
    clear hp3 A1 zA cA dA hb3 hd hW3
    go_wp2_with fail
    clear hsf
    rw [← HP3.out, ← HW3.out]
    go_loopw [11, 32] (fun v i wr => ∃ k : Nat, k ≤ ps.length ∧ i = .int .i64 k ∧ OwnI wr W3.heap.size v (skAll xs t ps k) ∧ Below W3.heap.size W3 wr) (fun _ i _ => ps.length - (intOf i).toNat)
    case atStart => exact ⟨0, Nat.zero_le _, rfl, OwnI.nil _ _, Below.refl _ _⟩
    case round =>
      obtain ⟨k, hk, rfl, hown, hb3⟩ := hrel
      by_cases hlt : k < ps.length
      · have hkx : k < xs.length := by rw [← HPL.out]; exact hlt
        have ⟨u0, u1⟩ := HBD.out k hkx
        have k0 : (0 : Int) ≤ (k : Int) := by omega
        have hb := bw4.trans (hb3.mono bw4.size)
        obtain ⟨b, off, rfl, hbl, hc1⟩ := (hy.below hb).cell k hlt
        have H00 := Lib.hid (skAt_0 xs t ps k)
        clear hb
        go_wp2_with fail
        go_loopw [11, 39] (fun v i wr => ∃ j : Nat, j ≤ ps.length ∧ i = .int .i64 j ∧ OwnI wr W3.heap.size v (skAt xs t ps k j) ∧ Below W3.heap.size W3 wr) (fun _ i _ => ps.length - (intOf i).toNat)
        case atStart => exact ⟨0, Nat.zero_le _, rfl, by rw [H00.out]; exact hown, hb3⟩
        case round =>
          clear hown hb3 hc1
          obtain ⟨j, hj, rfl, hown, hb3⟩ := hrel
          by_cases hjl : j < ps.length
          · have hjx : j < xs.length := by rw [← HPL.out]; exact hjl
            have ⟨v0, v1⟩ := HBD.out j hjx
            have j0 : (0 : Int) ≤ (j : Int) := by omega
            have hB := B3.below hb3
            have hD := D3.below hb3
            have hb := bw4.trans (hb3.mono bw4.size)
            have ⟨zB, cB, dB⟩ := hB
            have ⟨q0, q1⟩ := wtV_bd (xs := xs) (i := k) (j := j) t0 t1
            obtain ⟨b2, off2, e2, hbl2, hc2⟩ := (hy.below hb).cell j hjl
            simp only [Option.some.injEq, Addr.mk.injEq, and_true] at e2
            obtain ⟨rfl, rfl⟩ := e2
            go_wp2_with fail
            refine (weight_any _ _ _ _ _ _ _ _ _ _ hD hp t0 t1 hkx hjx).mono ?_
            rintro e w4 ⟨rfl, hb4⟩
            have b34 := hb3.trans (hb4.mono hb3.size)
            have o4 := hown.below hb4 (Nat.le_refl _)
            clear hb4 zB cB dB hown hb hB hD hb3 hc2
            cases ho : wtO xs t k j
            · have HN := Lib.hid (skAt_no (ps := ps) ho)
              go_wp2_with fail
              go_roundw
              case rel => exact ⟨j + 1, by omega, by go_num, by rw [HN.out]; exact o4, b34⟩
              case measure => simp [intOf]; omega
            · have HN : Hid (skAt xs t ps k (j+1) = skAt xs t ps k j ++ [nth ps j - nth ps k - wtV xs t k j]) := skAt_yes ho
              have hl4 := HLEN.out k j (by omega) (by omega)
              have hsz := b34.size
              obtain ⟨L, hL⟩ : ∃ L, L = skAt xs t ps k j := ⟨_, rfl⟩
              have HL := Lib.hid hL
              rw [← hL] at o4 hl4
              obtain ⟨av, cv, rfl⟩ := o4.form
              clear hL ho
              go_wp2_with (at_builtin; refine wpList_append_own _ rfl _ _ 23 rfl W3.heap.size 3 i0 (.int .i64 0) 1 8 Try.underlying23 hi hz0 hz1 hz2 rfl (by decide) (.slice av L.length cv) L.length (L.map (Value.int .i64)) rfl (o4.alloc (.cells #[.int .i64 (nth ps j - nth ps k - wtV xs t k j)] 3)) ⟨w4.heap.size, 0, none⟩ 1 1 [.int .i64 (nth ps j - nth ps k - wtV xs t k j)] rfl rfl (cell_one_new _ _ _) (by intro u hu; simp at hu; subst hu; rfl) (by unfold maxLen; omega) (by omega) (by simp; omega) ?_)
              intro v' w6 hown6 hgrow _
              have hg2 := grown_alloc_set hgrow
              have o6 : OwnI w6 W3.heap.size v' (skAt xs t ps k (j + 1)) := by
                rw [HN.out, ← HL.out]
                unfold OwnI
                rw [List.length_append, List.map_append]
                exact hown6
              have hU := o4.lt
              have b36 := b34.trans (below_of_grown hg2 (fun c e => (hU c e).1) hsz)
              have HO6 := Lib.hid o6
              clear hown6 hgrow hg2 o4 hU o6
              go_wp2_with fail
              go_roundw
              case rel => exact ⟨j + 1, by omega, by go_num, HO6.out, b36⟩
              case measure => simp [intOf]; omega
          · obtain rfl : j = ps.length := by omega
            have HE : Hid (skAt xs t ps k ps.length = skAll xs t ps (k+1)) := by rw [Hid, HPL.out]; exact skAt_end xs t ps k
            have HO := Lib.hid hown
            clear hown
            go_wp2_with fail
            go_roundw
            case rel => exact ⟨k + 1, by omega, by go_num, by rw [← HE.out]; exact HO.out, hb3⟩
            case measure => simp [intOf]; omega
      · obtain rfl : k = ps.length := by omega
        have hsk := HSK.out ps.length (by rw [HPL.out]; exact Nat.le_refl _)
        have hlen := HLEN.out ps.length 0 (by rw [HPL.out]; exact Nat.le_refl _) (Nat.zero_le _)
        rw [skAt_0] at hlen
        have hbf := bw4.trans (hb3.mono bw4.size)
        obtain ⟨av, cv, rfl⟩ := hown.form
        have hrd := hown.rd
        by_cases hnil : (skAll xs t ps ps.length).length = 0
        · have HF0 : Hid (skO (xs.length : Int) xs t ps = false) := by
            rw [Hid, H0.out, ← HPL.out, hnil]; rfl
          have HF1 : Hid (skR (xs.length : Int) xs t ps = 0) := by rw [Hid, skR, if_neg (by rw [HF0.out]; simp)]
          have hz : (((skAll xs t ps ps.length).length : Int) == 0) = true := by simpa using hnil
          clear hsk hlen hnil hown
          go_wp2_with fail
          go_ret2
          exact ⟨ret_ib HF1.out.symm HF0.out.symm, hbf⟩
        · have hpos : 0 < (skAll xs t ps ps.length).length := Nat.pos_of_ne_zero hnil
          have HF0 : Hid (skO (xs.length : Int) xs t ps = true) := by
            rw [Hid, H0.out, ← HPL.out]; simpa using hpos
          have HF1 : Hid (skR (xs.length : Int) xs t ps = mnTo (skAll xs t ps ps.length) (skAll xs t ps ps.length).length) := by
            rw [Hid, skR, if_pos HF0.out, ← HPL.out, mn_eq hpos (fun z hz => by have := (hsk z hz).2; omega)]
          have hz : (((skAll xs t ps ps.length).length : Int) == 0) = false := by simpa using hnil
          have hmin := sliceMin_any av (skAll xs t ps ps.length) cv wr hrd hpos
          have HM := Lib.hid hmin
          clear hsk hlen hnil hown hmin hpos
          go_wp2_with fail
          refine HM.out.mono ?_
          rintro e w7 ⟨rfl, hb7⟩
          go_wp2_with fail
          go_ret2
          exact ⟨ret_ib HF1.out.symm HF0.out.symm, hbf.trans (hb7.mono hbf.size)⟩

theorem walk (n0 : Int) (a0 : Option Addr) (xs0 : List Int) (cap0 : Nat) (i1 : Int) (a2 : Option Addr) (xs2 : List Int) (cap2 : Nat) (w : World) (hn0 : -9223372036854775808 ≤ n0 ∧ n0 ≤ 9223372036854775807) (hx0 : Rd w a0 xs0) (hi1 : -9223372036854775808 ≤ i1 ∧ i1 ≤ 9223372036854775807) (hx2 : Rd w a2 xs2) :
    Calls Try.prog 12 #[.agg #[.int .i64 n0, .slice a0 xs0.length cap0], .int .i64 i1, .slice a2 xs2.length cap2] w fun e w' => e = .returned (.bool true) ∧ Below w.heap.size w w' := by
  by_cases hs2 : 1048576 < (xs2.length : Int)
  · go_enter Try.func12, Try.ntmps12
    go_wp2_with fail
    go_ret
    exact ⟨rfl, (by repeat (first | exact Below.refl _ _ | assumption | refine Below.alloc ?_ (by first | exact Nat.le_refl _ | (simp only [World.size_alloc, World.size_setCell, World.size_drew]; omega) | omega) _ | refine Below.setCell ?_ (by first | exact Nat.le_refl _ | (simp only [World.size_alloc, World.size_setCell, World.size_drew]; omega) | omega) _ | refine Below.drew ?_))⟩
  by_cases hs0 : 1048576 < (xs0.length : Int)
  · go_enter Try.func12, Try.ntmps12
    go_wp2_with fail
    refine (szOrder_no (by omega) (by omega) (by omega) hx0.len).mono ?_
    rintro e w1 ⟨rfl, hb1⟩
    have bw1 : Below w.heap.size w w1 := Below.trans (by repeat (first | exact Below.refl _ _ | assumption | refine Below.alloc ?_ (by first | exact Nat.le_refl _ | (simp only [World.size_alloc, World.size_setCell, World.size_drew]; omega) | omega) _ | refine Below.setCell ?_ (by first | exact Nat.le_refl _ | (simp only [World.size_alloc, World.size_setCell, World.size_drew]; omega) | omega) _ | refine Below.drew ?_)) (hb1.mono (by first | (simp only [World.size_alloc, World.size_setCell, World.size_drew]; omega) | omega))
    have A0_1 : Box2 w1 w.heap.size (.int .i64 n0) (.slice a0 xs0.length cap0) := ⟨by have := hb1.size; simp at this; omega, (hb1.cell (p := ⟨w.heap.size, 0, none⟩) (by simp <;> omega)).trans (by simp), (hb1.cell (p := ⟨w.heap.size, 1, none⟩) (by simp <;> omega)).trans (by simp)⟩
    have ⟨zA0_1, cA0_1, dA0_1⟩ := A0_1
    go_wp2_with fail
    go_ret
    exact ⟨rfl, bw1⟩
  go_enter Try.func12, Try.ntmps12
  go_wp2_with fail
  refine (szOrder_ok (by omega) (by omega)).mono ?_
  rintro e w1 ⟨rfl, hb⟩
  have bw1 : Below w.heap.size w w1 := Below.trans (by repeat (first | exact Below.refl _ _ | assumption | refine Below.alloc ?_ (by first | exact Nat.le_refl _ | (simp only [World.size_alloc, World.size_setCell, World.size_drew]; omega) | omega) _ | refine Below.setCell ?_ (by first | exact Nat.le_refl _ | (simp only [World.size_alloc, World.size_setCell, World.size_drew]; omega) | omega) _ | refine Below.drew ?_)) (hb.mono (by first | (simp only [World.size_alloc, World.size_setCell, World.size_drew]; omega) | omega))
  have z1 : w.heap.size ≤ w1.heap.size := bw1.size
  have A0_1 : Box2 w1 w.heap.size (.int .i64 n0) (.slice a0 xs0.length cap0) := ⟨by have := hb.size; simp at this; omega, (hb.cell (p := ⟨w.heap.size, 0, none⟩) (by simp <;> omega)).trans (by simp), (hb.cell (p := ⟨w.heap.size, 1, none⟩) (by simp <;> omega)).trans (by simp)⟩
  have ⟨zA0_1, cA0_1, dA0_1⟩ := A0_1
  clear hb
  go_wp2_with fail
  refine (toOrder_any _ _ _ _ _ (hx0.below bw1) (by omega)).mono ?_
  rintro e w2 ⟨pT0, qT0, rfl, ho, hb⟩
  have ht : Below w1.heap.size w1 w2 := hb
  have z2 : w1.heap.size ≤ w2.heap.size := ht.size
  have bw2 : Below w.heap.size w w2 := bw1.trans (ht.mono bw1.size)
  have A0_2 := A0_1.below ht
  have ⟨zA0_2, cA0_2, dA0_2⟩ := A0_2
  clear A0_1 cA0_1 dA0_1
  have T0_2 := ho
  have UT0 := T0_2.cut (Nat.le_refl _)
  clear ho
  clear ht hb
  go_wp2_with fail
  refine (toIntS_any _ _ _ _ (hx2.below bw2) (by omega)).mono ?_
  rintro e w3 ⟨pT2, qT2, rfl, ho, hb⟩
  have ht : Below w2.heap.size w2 w3 := hb
  have z3 : w2.heap.size ≤ w3.heap.size := ht.size
  have bw3 : Below w.heap.size w w3 := bw2.trans (ht.mono bw2.size)
  have A0_3 := A0_2.below ht
  have ⟨zA0_3, cA0_3, dA0_3⟩ := A0_3
  have T0_3 := T0_2.below ht (Nat.le_refl _)
  clear A0_2 cA0_2 dA0_2 T0_2
  have T2_3 := ho
  have UT2 := T2_3.cut (Nat.le_refl _)
  clear ho
  clear ht hb
  go_wp2_with fail
  refine (sSlack_any _ _ _ _ _ _ _ _ _ hn0 (T0_3.rd) hi1 (T2_3.rd)).mono ?_
  rintro e w4 ⟨rfl, hb⟩
  have ht : Below w3.heap.size w3 w4 := hb
  have z4 : w3.heap.size ≤ w4.heap.size := ht.size
  have bw4 : Below w.heap.size w w4 := bw3.trans (ht.mono bw3.size)
  have A0_4 := A0_3.below ht
  have ⟨zA0_4, cA0_4, dA0_4⟩ := A0_4
  have T0_4 := T0_3.below ht (Nat.le_refl _)
  have T2_4 := T2_3.below ht (Nat.le_refl _)
  clear A0_3 cA0_3 dA0_3 T0_3 T2_3
  clear ht hb
  go_wp2_with fail
  clear T0_4 UT0
  clear T2_4 UT2
  refine (toOrder_any _ _ _ _ _ (hx0.below bw4) (by omega)).mono ?_
  rintro e w5 ⟨pX0, qX0, rfl, ho, hb⟩
  have ht : Below w4.heap.size w4 w5 := hb
  have z5 : w4.heap.size ≤ w5.heap.size := ht.size
  have bw5 : Below w.heap.size w w5 := bw4.trans (ht.mono bw4.size)
  have A0_5 := A0_4.below ht
  have ⟨zA0_5, cA0_5, dA0_5⟩ := A0_5
  clear A0_4 cA0_4 dA0_4
  have X0_5 := ho
  have UX0 := X0_5.cut (Nat.le_refl _)
  clear ho
  clear ht hb
  go_wp2_with fail
  refine (toIntS_any _ _ _ _ (hx2.below (bw5.alloc bw5.size _)) (by omega)).mono ?_
  rintro e w6 ⟨pX2, qX2, rfl, ho, hb⟩
  have ht : Below w5.heap.size w5 w6 := Below.trans (by repeat (first | exact Below.refl _ _ | assumption | refine Below.alloc ?_ (by first | exact Nat.le_refl _ | (simp only [World.size_alloc, World.size_setCell, World.size_drew]; omega) | omega) _ | refine Below.setCell ?_ (by first | exact Nat.le_refl _ | (simp only [World.size_alloc, World.size_setCell, World.size_drew]; omega) | omega) _ | refine Below.drew ?_)) (hb.mono (by first | (simp only [World.size_alloc, World.size_setCell, World.size_drew]; omega) | omega))
  have z6 : w5.heap.size ≤ w6.heap.size := ht.size
  have bw6 : Below w.heap.size w w6 := bw5.trans (ht.mono bw5.size)
  have A0_6 := A0_5.below ht
  have BX0_6 : Box2 w6 w5.heap.size (.int .i64 n0) (.slice pX0 xs0.length qX0) := (Box2.new w5 _ _ 32).below hb
  have ⟨zA0_6, cA0_6, dA0_6⟩ := A0_6
  have ⟨zBX0_6, cBX0_6, dBX0_6⟩ := BX0_6
  have X0_6 := X0_5.below ht (Nat.le_refl _)
  clear A0_5 cA0_5 dA0_5 X0_5
  have X2_6 := ho
  have UX2 := X2_6.cut (Nat.le_refl _); simp only [World.size_alloc] at UX2
  clear ho
  clear ht hb
  go_wp2_with fail
  refine (iSlack_any _ _ _ _ _ _ _ _ _ hn0 (X0_6.rd) hi1 (X2_6.rd)).mono ?_
  rintro e w7 ⟨rfl, hb⟩
  have ht : Below w6.heap.size w6 w7 := hb
  have z7 : w6.heap.size ≤ w7.heap.size := ht.size
  have bw7 : Below w.heap.size w w7 := bw6.trans (ht.mono bw6.size)
  have A0_7 := A0_6.below ht
  have BX0_7 := BX0_6.below ht
  have ⟨zA0_7, cA0_7, dA0_7⟩ := A0_7
  have ⟨zBX0_7, cBX0_7, dBX0_7⟩ := BX0_7
  have X0_7 := X0_6.below ht (Nat.le_refl _)
  have X2_7 := X2_6.below ht (Nat.le_refl _)
  clear A0_6 cA0_6 dA0_6 BX0_6 cBX0_6 dBX0_6 X0_6 X2_6
  clear ht hb
  go_wp2_with fail
  go_region_held3 (fun w' => w'.cell? ⟨w.heap.size, 0, none⟩ = some (.int .i64 n0) ∧ w'.cell? ⟨w.heap.size, 1, none⟩ = some (.slice a0 xs0.length cap0) ∧ w'.cell? ⟨w5.heap.size, 0, none⟩ = some (.int .i64 n0) ∧ w'.cell? ⟨w5.heap.size, 1, none⟩ = some (.slice pX0 xs0.length qX0))
    (first | exact ⟨P9.2.1, P9.2.2, Q9.2.1, Q9.2.2⟩ | exact ⟨P8.2.1, P8.2.2, Q8.2.1, Q8.2.2⟩ | go_keep)
    (first | (go_at_call 18; refine (toOrder_any _ _ _ _ _ (hx0.below (bw7.trans (Joins.below_draws _ _ _))) (by omega)).mono ?_; rintro e w8 ⟨a8', cap8', rfl, ho8, hb8⟩; have ht8 : Below w7.heap.size w7 w8 := (Joins.below_draws _ _ _).trans hb8; have P8 := A0_7.below ht8; have Q8 := BX0_7.below ht8) | (go_at_call 21; refine (eqOrder_any _ _ _ _ xs0 xs0 _ _ _ (X0_7.rd.below ht8) ho8.rd).mono ?_; rw [eqO_refl]; rintro e w9 ⟨rfl, hb9⟩; have P9 := P8.below hb9; have Q9 := Q8.below hb9))
  have ht : Below w7.heap.size w7 w9 := ht8.trans (hb9.mono ht8.size)
  have z9 : w7.heap.size ≤ w9.heap.size := ht.size
  have bw9 : Below w.heap.size w w9 := bw7.trans (ht.mono bw7.size)
  clear P8 Q8 P9 Q9 ho8
  have A0_9 := A0_7.below ht
  have BX0_9 := BX0_7.below ht
  have ⟨zA0_9, cA0_9, dA0_9⟩ := A0_9
  have ⟨zBX0_9, cBX0_9, dBX0_9⟩ := BX0_9
  have X0_9 := X0_7.below ht (Nat.le_refl _)
  have X2_9 := X2_7.below ht (Nat.le_refl _)
  clear A0_7 cA0_7 dA0_7 BX0_7 cBX0_7 dBX0_7 X0_7 X2_7
  clear ht hb9 ht8 hb8
  go_wp2_with fail
  refine (toIntS_any _ _ _ _ (hx2.below bw9) (by omega)).mono ?_
  rintro e w10 ⟨pY2, qY2, rfl, ho, hb⟩
  have ht : Below w9.heap.size w9 w10 := hb
  have z10 : w9.heap.size ≤ w10.heap.size := ht.size
  have bw10 : Below w.heap.size w w10 := bw9.trans (ht.mono bw9.size)
  have A0_10 := A0_9.below ht
  have BX0_10 := BX0_9.below ht
  have ⟨zA0_10, cA0_10, dA0_10⟩ := A0_10
  have ⟨zBX0_10, cBX0_10, dBX0_10⟩ := BX0_10
  have X0_10 := X0_9.below ht (Nat.le_refl _)
  have X2_10 := X2_9.below ht (Nat.le_refl _)
  clear A0_9 cA0_9 dA0_9 BX0_9 cBX0_9 dBX0_9 X0_9 X2_9
  have Y2_10 := ho
  have UY2 := Y2_10.cut (Nat.le_refl _)
  clear ho
  clear ht hb
  go_wp2_with fail
  refine (eqIntS_any _ _ xs2 xs2 _ _ _ X2_10.rd Y2_10.rd).mono ?_
  rw [eqL_self]
  rintro e w11 ⟨rfl, hb⟩
  have ht : Below w10.heap.size w10 w11 := hb
  have z11 : w10.heap.size ≤ w11.heap.size := ht.size
  have bw11 : Below w.heap.size w w11 := bw10.trans (ht.mono bw10.size)
  have A0_11 := A0_10.below ht
  have BX0_11 := BX0_10.below ht
  have ⟨zA0_11, cA0_11, dA0_11⟩ := A0_11
  have ⟨zBX0_11, cBX0_11, dBX0_11⟩ := BX0_11
  have X0_11 := X0_10.below ht (Nat.le_refl _)
  have X2_11 := X2_10.below ht (Nat.le_refl _)
  have Y2_11 := Y2_10.below ht (Nat.le_refl _)
  clear A0_10 cA0_10 dA0_10 BX0_10 cBX0_10 dBX0_10 X0_10 X2_10 Y2_10
  clear ht hb
  go_wp2_with fail
  clear Y2_11 UY2
  go_ret
  exact ⟨rfl, bw11⟩

theorem rd_of_trod {H : Type} {enc : TypeId × Value → H} {W : World} {fuel : Nat} {c : Value} {y : DataW H × List MemPlace}
    (h : DataW.trod enc Try.prog W 0 (fun _ => true) true fuel 23 [c] = some y) : ∃ (a : Option Addr) (xs : List Int) (cap : Nat), c = .slice a xs.length cap ∧ Rd W a xs ∧ ∀ k, k < xs.length → (Lit.int .i64 (nth xs k)).wf = true := by
  rcases Go.ChangeShapes.open_ints Try.underlying23 Try.underlying3 (by kernel_rfl) h with ⟨hcs, _⟩ | ⟨x, len, cap, zs, hcs, _, hl, hm, hz, _, hcell, hwf⟩
  · simp only [List.cons.injEq, and_true] at hcs
    exact ⟨none, [], 0, hcs, ⟨by simp, fun k hk => by simp at hk⟩, fun k hk => by simp at hk⟩
  · simp only [List.cons.injEq, and_true] at hcs
    simp only [if_true] at hz
    have hlen : (zs.take len).length = len := by rw [List.length_take]; omega
    have hn : ∀ k, k < len → nth (zs.take len) k = zs.getD k 0 := by
      intro k hk
      simp only [nth, List.getD_eq_getElem?_getD, List.getElem?_take, hk, if_true]
    refine ⟨some x, zs.take len, cap, by rw [hlen]; exact hcs, ⟨by rw [hlen]; unfold maxLen at hm; omega, fun k hk => ?_⟩, fun k hk => ?_⟩
    · rw [hlen] at hk
      obtain ⟨b, off, sp⟩ := x
      have h0 := hcell 0 (by omega)
      have hsp : sp = none := by simpa [Addr.add] using World.cell?_spot h0
      subst hsp
      have hk' := hcell k (by omega)
      rw [Addr.add_lit] at hk'
      exact ⟨b, off, rfl, World.block_lt_of_cell? _ _ h0, by rw [hk', hn k hk]⟩
    · rw [hlen] at hk
      rw [hn k hk]
      have hk2 : k < zs.length := by omega
      exact hwf _ (by rw [List.getD_eq_getElem?_getD, List.getElem?_eq_getElem hk2]; exact List.getElem_mem hk2)

theorem own : ownKnob Try.prog.godebug = none := by kernel_rfl
theorem laidOut : laidOutB Try.prog = true := by kernel_rfl
theorem wf_bd {n : Int} (h : (Lit.int .i64 n).wf = true) : -9223372036854775808 ≤ n ∧ n ≤ 9223372036854775807 := by
  simp [Lit.wf, IntKind.min, IntKind.max, IntKind.bits, IntKind.signed] at h
  omega

theorem cellsO : Try.prog.cellsOf 25 = 2 := by kernel_rfl

open Go.ChangeShapes Go.WideShapes Go.ChangeAt Go.RowKit in
set_option maxRecDepth 100000 in
theorem lifted (os : Os) (started : os.Started) (H : Type) (enc : TypeId × Value → H) :
    ReturnsInHanded {} Try.checked os 12 .any (Rows.fnExactSlackOfSpec.pre6 enc Try.prog Try.f12 Rows.fnExactSlackOfRow.domain false) (Rows.fnExactSlackOfSpec.post enc Try.prog Try.f12 false true false false) := by
  refine returnsInHanded_of_change (C := Try.checked) own started (by kernel_rfl) Try.func12
    (ChangeSpec.witness6 (enc := enc) (C := Try.checked) false ⟨#[], #[.agg #[.int .i64 0, .slice none 0 0], .int .i64 0, .slice none 0 0], []⟩ 8 (by kernel_rfl) (by kernel_rfl) (by kernel_rfl) (by kernel_rfl)) ?_
  intro W base args ds gs before hval0 hW hcnd _
  have hval : ∀ (j : Nat) t v, Try.f12.params[j]? = some t → args[j]? = some v → Value.okWide Try.prog W .any base t v := hval0
  have hW' := hW
  obtain ⟨p, q, hA0, hV, rfl, hfz, hnd⟩ := hW
  have hA : DataW.TrodAll enc Try.prog W 0 (fun _ => true) true Try.f12.params.toList args.toList ds p := hA0
  rw [Try.params12] at hA hval
  obtain ⟨v0, vs0, d0, ds0, p0, q0, hargs, rfl, rfl, h0, r0⟩ := trodAll_cons hA
  obtain ⟨v1, vs1, d1, ds1, p1, q1, rfl, rfl, rfl, h1, r1⟩ := trodAll_cons r0
  obtain ⟨v2, vs2, d2, ds2, p2, q2, rfl, rfl, rfl, h2, r2⟩ := trodAll_cons r1
  obtain ⟨rfl, rfl, rfl⟩ := trodAll_nil r2
  obtain rfl : args = #[v0, v1, v2] := by cases args; simp_all
  obtain ⟨rfl, rfl⟩ := trodVars_none hV
  have lt0 : ∀ x ∈ p0, x.block < W.heap.size := by obtain ⟨m, hm⟩ := h0; exact DataW.trod_lt m _ _ _ hm
  have lt1 : ∀ x ∈ p1, x.block < W.heap.size := by obtain ⟨m, hm⟩ := h1; exact DataW.trod_lt m _ _ _ hm
  have lt2 : ∀ x ∈ p2, x.block < W.heap.size := by obtain ⟨m, hm⟩ := h2; exact DataW.trod_lt m _ _ _ hm
  obtain ⟨c00, c01, y00, y01, m0, rfl, hd0, hp0, hy00, hy01⟩ := Go.Joins.open_agg2 Try.underlying25 (by kernel_rfl) cellsO (hval 0 25 v0 rfl rfl) h0
  obtain ⟨n0, e00, _, wf0⟩ := DataW.trod_int Try.underlying3 hy00
  simp only [List.cons.injEq, and_true] at e00
  subst e00
  obtain ⟨a0, xs0, cap0, rfl, rd0, wl0⟩ := rd_of_trod hy01
  obtain ⟨i1, rfl, hd1, hp1, wf1⟩ := open_int Try.underlying3 (hval 1 3 v1 rfl rfl) h1
  obtain ⟨a2, len2, cap2, rfl⟩ := okWide_slice Try.underlying23 (hval 2 23 v2 rfl rfl)
  obtain ⟨a2, xs2, cap2, e2, rd2, wl2⟩ := (by obtain ⟨fu, hf⟩ := h2; simp only [Value.cells] at hf; exact rd_of_trod hf : ∃ (a : Option Addr) (xs : List Int) (cap : Nat), Value.slice a2 len2 cap2 = .slice a xs.length cap ∧ Rd W a xs ∧ ∀ k, k < xs.length → (Lit.int .i64 (nth xs k)).wf = true)
  simp only [Value.slice.injEq] at e2
  obtain ⟨rfl, rfl, rfl⟩ := e2
  clear hA0 hval0
  refine (walk n0 a0 xs0 cap0 i1 a2 xs2 cap2 W (wf_bd wf0) rd0 (wf_bd wf1) rd2).mono fun e W' ⟨he, bel⟩ => ?_
  subst he
  exact ⟨_, rfl, _, _, _, [], _, [], hW', trodAll_mk1 (shut_bool Try.underlying4 _), (trodAll_cons_mk (Below.trod laidOut (by kernel_rfl) (of_decide_eq_true (by kernel_rfl)) h0 bel lt0) (trodAll_cons_mk (Below.trod laidOut (by kernel_rfl) (of_decide_eq_true (by kernel_rfl)) h1 bel lt1) (trodAll_cons_mk (Below.trod laidOut (by kernel_rfl) (of_decide_eq_true (by kernel_rfl)) h2 bel lt2) trodAll_mk0))), rfl, bel.frame _, fun h => by cases h⟩
theorem proved : Rows.FnExactSlackOfSaid :=
  OpenClaim.holds_of_wide 12 Try.f12 rfl rfl rfl rfl rfl rfl rfl ⟨rfl, rfl, rfl, rfl, rfl⟩ rfl rfl rfl rfl rfl (by kernel_rfl) Try.func12 (by kernel_rfl)
    (of_decide_eq_true (by kernel_rfl)) (by unfold Func.isWrapper; first | (rw [if_pos (by decide +kernel)]; kernel_rfl) | (rw [if_neg (by decide +kernel)]; exact ⟨rfl, rfl⟩))
    (fun os started H enc _ => lifted os started H enc)

end Go.Proofs.Ytonphneolkijcaa.slackOf
