/- PROVED: the law FnExactLongestChain returns true for every input, and each of its arguments reads afterwards as before. No conditions. -/
import Derived.Test.YtphemaojcjcfpaaRows
import Derived.WalkKit
import Derived.WalkSpells
import Derived.WalkLawsBesides
import Derived.Deep.QuietTactic
import Derived.BigQuiet
import Derived.ProofKit
import Derived.OpenShut
import Derived.ShutString
import Derived.ChangeOld
import Derived.Below
import Derived.Lib.SmallJoins
import Derived.Lib.Hide
import Derived.Deep.RegionLaw
import Derived.Deep.RegionHeld3
namespace Go.Proofs.Ytphemaojcjcfpaa.longestChain
open Go Go.RowKit
set_option linter.unusedVariables false
set_option linter.unusedSimpArgs false
set_option maxHeartbeats 400000


/-- a number of a list; a plain function, which the walk leaves alone -/
def nth (xs : List Int) (k : Nat) : Int := xs.getD k 0
theorem nth_get (xs : List Int) (k : Nat) (h : k < xs.length) : nth xs k = xs[k] := by simp [nth, h]
/-- the slice at an address reads as a list -/
structure Rd (w : World) (a : Option Addr) (xs : List Int) : Prop where
  len : xs.length ≤ 9223372036854775807
  cell : ∀ k, k < xs.length → ∃ b off, a = some ⟨b, off, none⟩ ∧ b < w.heap.size ∧ w.cell? ⟨b, off + k, none⟩ = some (.int .i64 (nth xs k))
theorem Rd.below {w w' : World} {a : Option Addr} {xs : List Int} (h : Rd w a xs) (hb : Below w.heap.size w w') : Rd w' a xs :=
  ⟨h.len, fun k hk => by
    obtain ⟨b, off, e, hl, hc⟩ := h.cell k hk
    exact ⟨b, off, e, Nat.lt_of_lt_of_le hl hb.size, (hb.cell (World.block_lt_of_cell? _ _ hc)).trans hc⟩⟩
theorem Rd.mid {w w1 w2 : World} {a : Option Addr} {xs : List Int} {B : Nat} (h : Rd w a xs) (hb : Below B w1 w2) (hB : w.heap.size ≤ B) (h1 : Rd w1 a xs) : Rd w2 a xs :=
  ⟨h.len, fun k hk => by
    obtain ⟨b, off, e, hl, hc⟩ := h.cell k hk
    obtain ⟨b', off', e', hl', hc'⟩ := h1.cell k hk
    rw [e] at e'
    simp only [Option.some.injEq, Addr.mk.injEq, and_true] at e'
    obtain ⟨rfl, rfl⟩ := e'
    exact ⟨b, off, e, Nat.lt_of_lt_of_le hl' hb.size, (hb.cell (by show b < B; omega)).trans hc'⟩⟩
theorem Rd.alloc {w : World} {a : Option Addr} {xs : List Int} (h : Rd w a xs) (o : Obj) : Rd (w.alloc o) a xs :=
  h.below ((Below.refl _ _).alloc (Nat.le_refl _) o)
theorem Rd.same {w w' : World} {a : Option Addr} {xs : List Int} (h : Rd w a xs) (hs : w.heap.size ≤ w'.heap.size)
    (hb : ∀ b off, a = some ⟨b, off, none⟩ → w'.heap[b]? = w.heap[b]?) : Rd w' a xs :=
  ⟨h.len, fun k hk => by
    obtain ⟨b, off, e, hl, hc⟩ := h.cell k hk
    exact ⟨b, off, e, Nat.lt_of_lt_of_le hl hs, (World.cell?_of_block (w := w) (a := ⟨b, off + k, none⟩) (hb b off e)).trans hc⟩⟩
/-- a slice value that owns the row of these integers, in a block from B on -/
def OwnI (w : World) (B : Nat) (v : Value) (xs : List Int) : Prop := w.ownsRow B 3 1 v xs.length (xs.map (Value.int .i64))
theorem OwnI.form {w : World} {B : Nat} {v : Value} {xs : List Int} (h : OwnI w B v xs) : ∃ a cap, v = .slice a xs.length cap := by
  rcases h.2 with ⟨rfl, h0⟩ | ⟨g, cap, cur, rfl, _⟩
  · exact ⟨none, 0, by rw [h0]⟩
  · exact ⟨_, _, rfl⟩
theorem OwnI.rd {w : World} {B n cap : Nat} {a : Option Addr} {xs : List Int} (h : OwnI w B (.slice a n cap) xs) : Rd w a xs := by
  rcases h.2 with ⟨e, h0⟩ | ⟨g, cap', cur, e, hb, hg, hn, hm, hs, ht⟩
  · exact ⟨by omega, fun k hk => by omega⟩
  · simp only [Value.slice.injEq] at e
    obtain ⟨rfl, rfl, rfl⟩ := e
    refine ⟨by unfold maxLen at hm; omega, fun k hk => ⟨g, 0, rfl, (Array.getElem?_eq_some_iff.1 hg).1, ?_⟩⟩
    have := World.ownsRow.cellAt h k (by omega)
    rw [Nat.zero_add, this]
    simp [nth, hk]
theorem OwnI.blk {w : World} {B n cap : Nat} {a : Option Addr} {xs : List Int} (h : OwnI w B (.slice a n cap) xs) : ∀ b off s, a = some ⟨b, off, s⟩ → B ≤ b ∧ b < w.heap.size := by
  intro b off s e
  subst e
  exact World.ownsRow.lt h b rfl
theorem OwnI.kept {w w' : World} {B : Nat} {v : Value} {xs : List Int} {row : Option Nat} (h : OwnI w B v xs) (hg : w.grownBy w' row) (hne : v.ownBlock = none ∨ v.ownBlock ≠ row) : OwnI w' B v xs := World.ownsRow.kept h hg hne
theorem OwnI.mono {w : World} {B B' : Nat} {v : Value} {xs : List Int} (h : OwnI w B v xs) (hB : B' ≤ B) : OwnI w B' v xs := by
  refine ⟨h.1, ?_⟩
  rcases h.2 with hn | ⟨g, cap, cur, e, hb, rest⟩
  · exact .inl hn
  · exact .inr ⟨g, cap, cur, e, by omega, rest⟩
theorem OwnI.below {w w' : World} {B B' : Nat} {v : Value} {xs : List Int} (h : OwnI w B v xs) (hb : Below B' w w') (hB : w.heap.size ≤ B') : OwnI w' B v xs := by
  refine ⟨h.1, ?_⟩
  rcases h.2 with hn | ⟨g, cap, cur, e, hb', hg, rest⟩
  · exact .inl hn
  · refine .inr ⟨g, cap, cur, e, hb', ?_, rest⟩
    rw [hb.block g (by have := (Array.getElem?_eq_some_iff.1 hg).1; omega)]
    exact hg
theorem ret_bool {a b : Bool} (h : a = b) : Ending.returned (.bool a) = .returned (.bool b) := by rw [h]
theorem ret_int {a b : Int} (h : a = b) : Ending.returned (.int .i64 a) = .returned (.int .i64 b) := by rw [h]
theorem val_int {a b : Int} (h : a = b) : Value.int .i64 a = .int .i64 b := by rw [h]
theorem grown_below {w w' : World} {g : Nat} (h : w.grownBy w' (some g)) (B : Nat) (hB : B ≤ g) (hs : B ≤ w.heap.size) : Below B w w' :=
  ⟨h.os, h.tape, h.output, h.size, fun k hk => h.block k (by omega) (by intro e; simp only [Option.some.injEq] at e; omega)⟩
theorem below_grown {w w' : World} {B : Nat} (h : Below B w w') (hB : w.heap.size ≤ B) (row : Option Nat) : w.grownBy w' row :=
  ⟨h.os, h.tape, h.output, h.size, fun k hk _ => h.block k (by omega)⟩
theorem bcell {W w1 : World} (hb : Below W.heap.size W w1) : (∀ b o, b < W.heap.size → w1.cell? ⟨b, o, none⟩ = W.cell? ⟨b, o, none⟩) ∧ (∀ b o, b < W.heap.size → w1.frozen? ⟨b, o, none⟩ = W.frozen? ⟨b, o, none⟩) :=
  ⟨fun b o h => hb.cell (p := ⟨b, o, none⟩) h, fun b o h => hb.frozen (p := ⟨b, o, none⟩) h⟩
theorem infoInt : (Try.prog.info? 3).map (fun i => (i.zero, i.size, i.bytes)) = some (some (.int .i64 0), 1, 8) := by kernel_rfl
theorem OwnI.setBelow {w : World} {B : Nat} {v : Value} {xs : List Int} (h : OwnI w B v xs) {p : Addr} (hp : p.block < B) (u : Value) : OwnI (w.setCell p u) B v xs := ownsRow_setCell_below h hp u
theorem OwnI.alloc {w : World} {B : Nat} {v : Value} {xs : List Int} (h : OwnI w B v xs) (o : Obj) : OwnI (w.alloc o) B v xs := h.below ((Below.refl _ _).alloc (Nat.le_refl _) o) (Nat.le_refl _)
theorem Below.mono' {B B' : Nat} {w w' : World} (h : Below B w w') (hB : B' ≤ B) : Below B' w w' := h.mono hB
/-- a block that holds two cells -/
def Box2 (w : World) (b : Nat) (u v : Value) : Prop := b < w.heap.size ∧ w.cell? ⟨b, 0, none⟩ = some u ∧ w.cell? ⟨b, 1, none⟩ = some v
theorem Box2.below {w w' : World} {b : Nat} {u v : Value} (h : Box2 w b u v) (hb : Below w.heap.size w w') : Box2 w' b u v :=
  ⟨Nat.lt_of_lt_of_le h.1 hb.size, (hb.cell (p := ⟨b, 0, none⟩) h.1).trans h.2.1, (hb.cell (p := ⟨b, 1, none⟩) h.1).trans h.2.2⟩
theorem Box2.new (w : World) (u v : Value) (t : TypeId) : Box2 (w.alloc (.cells #[u, v] t)) w.heap.size u v :=
  ⟨by simp, by simp, by simp⟩
theorem Box2.kept {w w' : World} {b : Nat} {u v : Value} {row : Option Nat} (h : Box2 w b u v) (hg : w.grownBy w' row) (hne : some b ≠ row) : Box2 w' b u v :=
  ⟨Nat.lt_of_lt_of_le h.1 hg.size, hg.cell h.2.1 hne, hg.cell h.2.2 hne⟩
theorem OwnI.lt {w : World} {B : Nat} {v : Value} {xs : List Int} (h : OwnI w B v xs) : ∀ b, v.ownBlock = some b → B ≤ b ∧ b < w.heap.size := World.ownsRow.lt h
theorem OwnI.cut {w : World} {B : Nat} {v : Value} {xs : List Int} (h : OwnI w B v xs) {U : Nat} (hU : w.heap.size ≤ U) : ∀ b, v.ownBlock = some b → B ≤ b ∧ b < U := fun b e => ⟨(h.lt b e).1, Nat.lt_of_lt_of_le (h.lt b e).2 hU⟩
/-- a block of two cells that may be written -/
def Var2 (w : World) (b : Nat) (u v : Value) : Prop := Box2 w b u v ∧ w.frozen? ⟨b, 0, none⟩ = false ∧ w.frozen? ⟨b, 1, none⟩ = false
theorem Var2.below {w w' : World} {b : Nat} {u v : Value} (h : Var2 w b u v) (hb : Below w.heap.size w w') : Var2 w' b u v :=
  ⟨h.1.below hb, (hb.frozen (p := ⟨b, 0, none⟩) h.1.1).trans h.2.1, (hb.frozen (p := ⟨b, 1, none⟩) h.1.1).trans h.2.2⟩
theorem Var2.new (w : World) (u v : Value) (t : TypeId) : Var2 (w.alloc (.cells #[u, v] t)) w.heap.size u v :=
  ⟨Box2.new w u v t, by simp, by simp⟩
theorem Var2.alloc {w : World} {b : Nat} {u v : Value} (h : Var2 w b u v) (o : Obj) : Var2 (w.alloc o) b u v := h.below ((Below.refl _ _).alloc (Nat.le_refl _) o)
theorem Var2.kept {w w' : World} {b : Nat} {u v : Value} {row : Option Nat} (h : Var2 w b u v) (hg : w.grownBy w' row) (hne : some b ≠ row) : Var2 w' b u v :=
  ⟨h.1.kept hg hne, (World.frozen?_of_block (w := w) (a := ⟨b, 0, none⟩) (hg.block b h.1.1 hne)).trans h.2.1, (World.frozen?_of_block (w := w) (a := ⟨b, 1, none⟩) (hg.block b h.1.1 hne)).trans h.2.2⟩
theorem Var2.set {w : World} {b : Nat} {u v : Value} (h : Var2 w b u v) (u' v' : Value) : Var2 ((w.setCell ⟨b, 0, none⟩ u').setCell ⟨b, 1, none⟩ v') b u' v' := by
  refine ⟨⟨by simpa using h.1.1, ?_, ?_⟩, by simpa using h.2.1, by simpa using h.2.2⟩
  · rw [World.cell?_setCell_other _ _ _ _ (by simp), World.cell?_setCell_same _ _ _ h.1.2.1]
  · rw [World.cell?_setCell_same _ _ _ (u := v) (by rw [World.cell?_setCell_other _ _ _ _ (by simp)]; exact h.1.2.2)]
theorem grown_set (w : World) (p : Addr) (u : Value) : w.grownBy (w.setCell p u) (some p.block) :=
  ⟨rfl, rfl, rfl, by simp, fun k hk hn => Below.heap_setCell w p u k (fun e => hn (by rw [e]))⟩
theorem Var2.set1 {w : World} {b : Nat} {u v : Value} (h : Var2 w b u v) (v' : Value) : Var2 (w.setCell ⟨b, 1, none⟩ v') b u v' := by
  refine ⟨⟨by simpa using h.1.1, ?_, ?_⟩, by simpa using h.2.1, by simpa using h.2.2⟩
  · rw [World.cell?_setCell_other _ _ _ _ (by simp)]; exact h.1.2.1
  · rw [World.cell?_setCell_same _ _ _ h.1.2.2]
theorem Box2.set {w : World} {b : Nat} {u v : Value} (h : Box2 w b u v) {p : Addr} (x : Value) (hne : b ≠ p.block) : Box2 (w.setCell p x) b u v :=
  h.kept (grown_set w p x) (by simpa using hne)
theorem Var2.other {w : World} {b : Nat} {u v : Value} (h : Var2 w b u v) {p : Addr} (x : Value) (hne : b ≠ p.block) : Var2 (w.setCell p x) b u v :=
  h.kept (grown_set w p x) (by simpa using hne)
theorem ne_own {v : Value} {b : Nat} (h : ∀ c, v.ownBlock = some c → c ≠ b) : some b ≠ v.ownBlock := fun e => h b e.symm rfl
theorem grown_alloc_set {w w1 : World} {r : Option Nat} {o : Obj} (h : (w.alloc o).grownBy w1 r) : w.grownBy w1 r :=
  ⟨h.os, h.tape, h.output, by have := h.size; simp at this; omega, fun k hk hn => (h.block k (by simp; omega) hn).trans (Below.heap_alloc w o k hk)⟩
theorem grown_trans {w w1 w2 : World} {r : Option Nat} (h1 : w.grownBy w1 r) (h2 : w1.grownBy w2 r) : w.grownBy w2 r :=
  ⟨h2.os.trans h1.os, h2.tape.trans h1.tape, h2.output.trans h1.output, Nat.le_trans h1.size h2.size, fun k hk hn => (h2.block k (by have := h1.size; omega) hn).trans (h1.block k hk hn)⟩
theorem OwnI.nil (w : World) (B : Nat) : OwnI w B (.slice none 0 0) [] := World.ownsRow_nil _ _ _ _
theorem below_of_grown {w w' : World} {v : Value} {B : Nat} (hg : w.grownBy w' v.ownBlock) (hB : ∀ b, v.ownBlock = some b → B ≤ b) (hs : B ≤ w.heap.size) : Below B w w' :=
  ⟨hg.os, hg.tape, hg.output, hg.size, fun k hk => hg.block k (by omega) (fun e => by have := hB k e.symm; omega)⟩

def szF (left : Int) (n : Nat) : Int := if left - n < 0 then -1 else left - n
theorem szIntS_any (a : Option Addr) (n cap : Nat) (l : Int) (w : World) (h0 : 0 ≤ l) (h1 : l ≤ 1048576) (hn : n ≤ 9223372036854775807) :
    Calls Try.prog 46 #[.slice a n cap, .int .i64 l] w fun e w' => e = .returned (.int .i64 (szF l n)) ∧ w = w' := by
  by_cases h : l - n < 0
  · go_enter Try.func46, Try.ntmps46
    go_wp2
    go_ret
    exact ⟨ret_int (by simp [szF, h]), rfl⟩
  · go_enter Try.func46, Try.ntmps46
    go_wp2
    go_ret
    exact ⟨ret_int (by rw [szF, if_neg (by omega)]), rfl⟩

theorem szOrder_any (n : Int) (a : Option Addr) (len cap : Nat) (l : Int) (w : World) (h0 : 0 ≤ l) (h1 : l ≤ 1048576) (hn : len ≤ 9223372036854775807) :
    Calls Try.prog 13 #[.agg #[.int .i64 n, .slice a len cap], .int .i64 l] w fun e w' => e = .returned (.int .i64 (szF l len)) ∧ Below w.heap.size w w' := by
  by_cases h : l - len < 0
  · have hs : szF l len = -1 := by simp [szF, h]
    rw [hs]
    have HS := Lib.hid hs
    clear hs
    go_enter Try.func13, Try.ntmps13
    go_wp2_with (go_at_call 46; refine (szIntS_any _ _ _ _ _ h0 h1 hn).mono ?_; rintro e w' ⟨rfl, rfl⟩; rw [HS.out])
    go_ret
    exact ⟨rfl, (Below.refl _ _).alloc (Nat.le_refl _) _⟩
  · have hs : szF l len = l - len := by rw [szF, if_neg (by omega)]
    have hp : 0 ≤ szF l len := by omega
    clear hs
    go_enter Try.func13, Try.ntmps13
    go_wp2_with (go_at_call 46; refine (szIntS_any _ _ _ _ _ h0 h1 hn).mono ?_; rintro e w' ⟨rfl, rfl⟩)
    go_ret
    exact ⟨rfl, (Below.refl _ _).alloc (Nat.le_refl _) _⟩

theorem szOrder_ok {n : Int} {a : Option Addr} {len cap : Nat} {l : Int} {w : World} (h1 : l ≤ 1048576) (h : len ≤ l) :
    Calls Try.prog 13 #[.agg #[.int .i64 n, .slice a len cap], .int .i64 l] w fun e w' => e = .returned (.int .i64 (l - len)) ∧ Below w.heap.size w w' :=
  (szOrder_any n a len cap l w (by omega) h1 (by omega)).mono (fun e w' hh => ⟨by rw [hh.1, szF, if_neg (by omega)], hh.2⟩)
theorem szOrder_no {n : Int} {a : Option Addr} {len cap : Nat} {l : Int} {w : World} (h0 : 0 ≤ l) (h1 : l ≤ 1048576) (h : l < len) (hl : len ≤ 9223372036854775807) :
    Calls Try.prog 13 #[.agg #[.int .i64 n, .slice a len cap], .int .i64 l] w fun e w' => e = .returned (.int .i64 (-1)) ∧ Below w.heap.size w w' :=
  (szOrder_any n a len cap l w h0 h1 hl).mono (fun e w' hh => ⟨by rw [hh.1, szF, if_pos (by omega)], hh.2⟩)

theorem set_step (xs : List Int) (k : Nat) (h : k < xs.length) :
    ((xs.take k ++ List.replicate (xs.length - k) (0:Int)).map (Value.int .i64)).set k (.int .i64 (nth xs k)) = (xs.take (k+1) ++ List.replicate (xs.length - (k+1)) (0:Int)).map (Value.int .i64) := by
  apply List.ext_getElem?
  intro j
  have hk : (xs.take k).length = k := by simp; omega
  have hk1 : (xs.take (k+1)).length = k+1 := by simp; omega
  rw [List.getElem?_set]
  by_cases hj : k = j
  · subst hj
    rw [if_pos rfl, if_pos (by simp; omega), List.getElem?_map, List.getElem?_append_left (by omega)]
    simp [nth, h]
  · simp only [hj, if_false, List.getElem?_map, List.getElem?_append, hk, hk1, List.getElem?_take, List.getElem?_replicate]
    by_cases h1 : j < k
    · have h2 : j < k + 1 := by omega
      simp [h1, h2]
    · have h2 : ¬ j < k + 1 := by omega
      have h3 : j - k < xs.length - k ↔ j - (k+1) < xs.length - (k+1) := by omega
      simp [h1, h2, h3]
theorem toIntS_any (a : Option Addr) (xs : List Int) (cap : Nat) (w : World) (hx : Rd w a xs) (hn : xs.length ≤ 1048576) :
    Calls Try.prog 49 #[.slice a xs.length cap] w fun e w' => ∃ a' cap', e = .returned (.slice a' xs.length cap') ∧ OwnI w' w.heap.size (.slice a' xs.length cap') xs ∧ Below w.heap.size w w' := by
  obtain ⟨i0, hi, hz0, hz1, hz2⟩ := info_parts infoInt
  go_enter Try.func49, Try.ntmps49
  go_wp2_with (at_make; refine wpList_make_full _ rfl (.tmp 6) (.tmp 6) 22 rfl w.heap.size 3 i0 (.int .i64 0) 1 Try.underlying22 hi hz0 hz1 .i64 .i64 _ _ xs.length rfl rfl rfl rfl (by rw [hz2]; omega) (by unfold maxLen; omega) (Nat.le_refl _) ?_; intro w1 hown hgrow)
  have hb0 : Below w.heap.size w w1 := (Below.refl _ _).grown hgrow (Nat.le_refl _) (fun k h => by cases h)
  have hown0 : w1.ownsRow w.heap.size 3 1 (.slice (some ⟨w.heap.size, 0, none⟩) xs.length xs.length) xs.length ((xs.take 0 ++ List.replicate (xs.length - 0) (0:Int)).map (Value.int .i64)) := by
    simpa [Value.cells, toList_madeCells_one] using hown
  clear hown hgrow
  have hz : w.heap.size < w1.heap.size := by
    have := (World.ownsRow.lt hown0 w.heap.size rfl).2
    omega
  go_loopw [4] (fun i wr => ∃ k : Nat, k ≤ xs.length ∧ i = .int .i64 k ∧ wr.ownsRow w.heap.size 3 1 (.slice (some ⟨w.heap.size, 0, none⟩) xs.length xs.length) xs.length ((xs.take k ++ List.replicate (xs.length - k) (0:Int)).map (Value.int .i64)) ∧ Below w.heap.size w wr) (fun i _ => xs.length - (intOf i).toNat)
  case atStart => exact ⟨0, Nat.zero_le _, rfl, hown0, hb0⟩
  case round =>
    obtain ⟨k, hk, rfl, hown, hb⟩ := hrel
    by_cases hlt : k < xs.length
    · obtain ⟨b, off, rfl, hbl, hc⟩ := hx.cell k hlt
      have hc1 := (hb.cell (p := ⟨b, off + k, none⟩) hbl).trans hc
      have hst := World.ownsRow.stored hown k (.int .i64 (nth xs k))
      rw [set_step xs k hlt] at hst
      have hcc := World.ownsRow.cellAt hown k (by omega)
      have hfr := World.ownsRow.frozenAt hown k
      have hcc' : ∃ u, wr.cell? ⟨w.heap.size, k, none⟩ = some u := by
        rw [hcc]
        exact ⟨_, List.getElem?_eq_getElem (by simp; omega)⟩
      obtain ⟨u, hu⟩ := hcc'
      have Hst := Lib.hid hst
      clear hst hcc hown hc
      go_wp2
      go_roundw
      case rel => exact ⟨k + 1, by omega, by go_num, Hst.out.1, hb.setCell (Nat.le_refl _) _⟩
      case measure => simp [intOf]; omega
    · obtain rfl : k = xs.length := by omega
      go_wp2
      go_ret
      refine ⟨_, _, rfl, ?_, hb⟩
      have : xs.take xs.length ++ List.replicate (xs.length - xs.length) (0:Int) = xs := by simp
      rw [this] at hown
      exact hown

theorem toOrder_any (n : Int) (a : Option Addr) (xs : List Int) (cap : Nat) (w : World) (hx : Rd w a xs) (hn : xs.length ≤ 1048576) :
    Calls Try.prog 15 #[.agg #[.int .i64 n, .slice a xs.length cap]] w fun e w' => ∃ a' cap', e = .returned (.agg #[.int .i64 n, .slice a' xs.length cap']) ∧ OwnI w' w.heap.size (.slice a' xs.length cap') xs ∧ Below w.heap.size w w' := by
  go_enter Try.func15, Try.ntmps15
  go_wp2_with fail
  refine (toIntS_any _ _ _ _ (hx.below (by repeat (first | exact Below.refl _ _ | assumption | refine Below.alloc ?_ (by first | exact Nat.le_refl _ | (simp only [World.size_alloc, World.size_setCell, World.size_drew]; omega) | omega) _ | refine Below.setCell ?_ (by first | exact Nat.le_refl _ | (simp only [World.size_alloc, World.size_setCell, World.size_drew]; omega) | omega) _ | refine Below.drew ?_))) hn).mono ?_
  rintro e w1 ⟨a', cap', rfl, hown, hb⟩
  obtain ⟨hc, hf⟩ := bcell hb
  have hz := hb.size
  simp only [World.size_alloc, World.size_setCell] at hz
  go_wp2
  have hown' := ((((hown.setBelow (p := ⟨w.heap.size + 1 + 1, 1, none⟩) (by first | (simp only [World.size_alloc, World.size_setCell, World.size_drew]; omega) | omega) (.slice a' xs.length cap')).setBelow (p := ⟨w.heap.size + 1, 0, none⟩) (by first | (simp only [World.size_alloc, World.size_setCell, World.size_drew]; omega) | omega) (.int .i64 n)).setBelow (p := ⟨w.heap.size + 1, 1, none⟩) (by first | (simp only [World.size_alloc, World.size_setCell, World.size_drew]; omega) | omega) (.slice a' xs.length cap'))).mono (B' := w.heap.size) (by first | (simp only [World.size_alloc, World.size_setCell, World.size_drew]; omega) | omega)
  have hb' : Below w.heap.size w w1 := Below.trans (by repeat (first | exact Below.refl _ _ | assumption | refine Below.alloc ?_ (by first | exact Nat.le_refl _ | (simp only [World.size_alloc, World.size_setCell, World.size_drew]; omega) | omega) _ | refine Below.setCell ?_ (by first | exact Nat.le_refl _ | (simp only [World.size_alloc, World.size_setCell, World.size_drew]; omega) | omega) _ | refine Below.drew ?_)) (hb.mono (by first | (simp only [World.size_alloc, World.size_setCell, World.size_drew]; omega) | omega))
  refine bodyPost_ret (v := .agg #[.int .i64 n, .slice a' xs.length cap']) (by simp [results, Try.results15, go_sem, hc]) rfl ⟨a', cap', rfl, hown', ?_⟩
  exact ((hb'.setCell (by first | exact Nat.le_refl _ | (simp only [World.size_alloc, World.size_setCell, World.size_drew]; omega) | omega) _).setCell (by first | exact Nat.le_refl _ | (simp only [World.size_alloc, World.size_setCell, World.size_drew]; omega) | omega) _).setCell (by first | exact Nat.le_refl _ | (simp only [World.size_alloc, World.size_setCell, World.size_drew]; omega) | omega) _

def eqL (xs ys : List Int) : Bool := decide (xs = ys)
theorem eqL_self (xs : List Int) : eqL xs xs = true := by simp [eqL]

theorem eqIntS_any (a b : Option Addr) (xs ys : List Int) (ca cb : Nat) (w : World) (hx : Rd w a xs) (hy : Rd w b ys) :
    Calls Try.prog 24 #[.slice a xs.length ca, .slice b ys.length cb] w fun e w' => e = .returned (.bool (eqL xs ys)) ∧ Below w.heap.size w w' := by
  have hlx := hx.len
  have hly := hy.len
  by_cases hl : xs.length = ys.length
  · have hl' : ((xs.length : Int) != (ys.length : Int)) = false := by simp [hl]
    go_enter Try.func24, Try.ntmps24
    have HL := Lib.hid hl
    clear hl
    go_wp2_with fail
    go_loopw [5] (fun i wr => ∃ k : Nat, k ≤ xs.length ∧ i = .int .i64 k ∧ xs.take k = ys.take k ∧ Below w.heap.size w wr) (fun i _ => xs.length - (intOf i).toNat)
    case atStart => exact ⟨0, Nat.zero_le _, rfl, rfl, Below.refl _ _⟩
    case round =>
      obtain ⟨k, hk, rfl, htk, hb⟩ := hrel
      have HT := Lib.hid htk
      clear htk
      by_cases hlt : k < xs.length
      · have hlt' : k < ys.length := by rw [← HL.out]; exact hlt
        obtain ⟨b1, o1, rfl, hb1, hc1⟩ := (hx.below hb).cell k hlt
        obtain ⟨b2, o2, rfl, hb2, hc2⟩ := (hy.below hb).cell k hlt'
        by_cases he : nth xs k = nth ys k
        · have he' : (nth xs k != nth ys k) = false := by simp [he]
          have HE := Lib.hid he
          clear he
          go_wp2_with fail
          go_quiet (fail)
          go_wp2_with fail
          go_roundw
          case rel =>
            refine ⟨k + 1, by omega, by go_num, ?_, by exact hb.trans (Joins.below_draws _ _ _)⟩
            rw [List.take_succ_eq_append_getElem hlt, List.take_succ_eq_append_getElem hlt', HT.out, ← nth_get, ← nth_get, HE.out]
          case measure => simp [intOf]; omega
        · have he' : (nth xs k != nth ys k) = true := by simp [he]
          have hne : eqL xs ys = false := by
            simp only [eqL, decide_eq_false_iff_not]
            intro e
            subst e
            exact he rfl
          have HN := Lib.hid hne
          clear he hne
          go_wp2_with fail
          go_quiet (fail)
          go_wp2_with fail
          go_ret
          exact ⟨ret_bool HN.out.symm, hb.trans (Joins.below_draws _ _ _)⟩
      · go_wp2_with fail
        go_ret
        refine ⟨ret_bool ?_, hb⟩
        have h1 := HT.out
        rw [List.take_of_length_le (by omega), List.take_of_length_le (by rw [← HL.out]; omega)] at h1
        simp [eqL, h1]
  · have hl' : ((xs.length : Int) != (ys.length : Int)) = true := by simp; omega
    have hne : eqL xs ys = false := by
      simp only [eqL, decide_eq_false_iff_not]
      intro e
      exact hl (by rw [e])
    have HN := Lib.hid hne
    clear hl hne
    go_enter Try.func24, Try.ntmps24
    go_wp2_with fail
    go_ret
    exact ⟨ret_bool HN.out.symm, Below.refl _ _⟩

def eqO (n : Int) (xs : List Int) (m : Int) (ys : List Int) : Bool := decide (n = m) && eqL xs ys
theorem eqO_refl (n : Int) (xs : List Int) : eqO n xs n xs = true := by simp [eqO, eqL]

theorem eqOrder_any (n m : Int) (a b : Option Addr) (xs ys : List Int) (ca cb : Nat) (w : World) (hx : Rd w a xs) (hy : Rd w b ys) :
    Calls Try.prog 17 #[.agg #[.int .i64 n, .slice a xs.length ca], .agg #[.int .i64 m, .slice b ys.length cb]] w fun e w' => e = .returned (.bool (eqO n xs m ys)) ∧ Below w.heap.size w w' := by
  by_cases hn : n = m
  · have hn' : (n != m) = false := by simp [hn]
    have HN := Lib.hid hn
    clear hn
    cases he : eqL xs ys
    all_goals
      have HO : Hid (eqO n xs m ys = eqL xs ys) := by simp [Hid, eqO, HN.out]
      have HE := Lib.hid he
      clear he
      go_enter Try.func17, Try.ntmps17
      go_wp2_with fail
      refine (eqIntS_any _ _ xs ys _ _ _ (hx.below (by repeat (first | exact Below.refl _ _ | assumption | refine Below.alloc ?_ (by first | exact Nat.le_refl _ | (simp only [World.size_alloc, World.size_setCell, World.size_drew]; omega) | omega) _ | refine Below.setCell ?_ (by first | exact Nat.le_refl _ | (simp only [World.size_alloc, World.size_setCell, World.size_drew]; omega) | omega) _ | refine Below.drew ?_))) (hy.below (by repeat (first | exact Below.refl _ _ | assumption | refine Below.alloc ?_ (by first | exact Nat.le_refl _ | (simp only [World.size_alloc, World.size_setCell, World.size_drew]; omega) | omega) _ | refine Below.setCell ?_ (by first | exact Nat.le_refl _ | (simp only [World.size_alloc, World.size_setCell, World.size_drew]; omega) | omega) _ | refine Below.drew ?_)))).mono ?_
      rintro e w1 ⟨rfl, hb⟩
      rw [HE.out]
      obtain ⟨hc, hf⟩ := bcell hb
      go_wp2_with fail
      go_ret
      exact ⟨ret_bool (by rw [HO.out, HE.out]), Below.trans (by repeat (first | exact Below.refl _ _ | assumption | refine Below.alloc ?_ (by first | exact Nat.le_refl _ | (simp only [World.size_alloc, World.size_setCell, World.size_drew]; omega) | omega) _ | refine Below.setCell ?_ (by first | exact Nat.le_refl _ | (simp only [World.size_alloc, World.size_setCell, World.size_drew]; omega) | omega) _ | refine Below.drew ?_)) (hb.mono (by first | (simp only [World.size_alloc, World.size_setCell, World.size_drew]; omega) | omega))⟩
  · have hn' : (n != m) = true := by simp [hn]
    have HO : Hid (eqO n xs m ys = false) := by simp [Hid, eqO, hn]
    clear hn
    go_enter Try.func17, Try.ntmps17
    go_wp2_with fail
    go_ret
    exact ⟨ret_bool HO.out.symm, (by repeat (first | exact Below.refl _ _ | assumption | refine Below.alloc ?_ (by first | exact Nat.le_refl _ | (simp only [World.size_alloc, World.size_setCell, World.size_drew]; omega) | omega) _ | refine Below.setCell ?_ (by first | exact Nat.le_refl _ | (simp only [World.size_alloc, World.size_setCell, World.size_drew]; omega) | omega) _ | refine Below.drew ?_))⟩

theorem wrap64_small (n : Int) (h0 : -9223372036854775808 ≤ n) (h1 : n ≤ 9223372036854775807) : IntKind.i64.wrap n = n := by
  simp only [IntKind.wrap, IntKind.bits, IntKind.signed]
  simp
  omega
theorem i64_wrap (n : Int) : IntKind.i64.wrap n = wrap64 n := IntWalk.i64_left n
theorem ofInt_i64 (a : Nat) (ha : a < 9223372036854775808) : (BitVec.ofInt 64 (a : Int)).toNat = a := by
  simp
  omega
theorem and_nat (a b : Nat) (ha : a < 9223372036854775808) (hb : b < 9223372036854775808) : bits .and .i64 (a : Int) (b : Int) = ((a &&& b : Nat) : Int) := by
  have hx : a &&& b < 2 ^ 63 := Nat.and_lt_two_pow _ (by omega)
  show IntKind.i64.wrap ((BitVec.ofInt 64 (a : Int) &&& BitVec.ofInt 64 (b : Int)).toNat : Int) = _
  rw [BitVec.toNat_and, ofInt_i64 a ha, ofInt_i64 b hb, wrap64_small _ (by omega) (by omega)]
theorem or_nat (a b : Nat) (ha : a < 9223372036854775808) (hb : b < 9223372036854775808) : bits .or .i64 (a : Int) (b : Int) = ((a ||| b : Nat) : Int) := by
  have hx : a ||| b < 2 ^ 63 := Nat.or_lt_two_pow (by omega) (by omega)
  show IntKind.i64.wrap ((BitVec.ofInt 64 (a : Int) ||| BitVec.ofInt 64 (b : Int)).toNat : Int) = _
  rw [BitVec.toNat_or, ofInt_i64 a ha, ofInt_i64 b hb, wrap64_small _ (by omega) (by omega)]
/-- a set without the elements of another one -/
def sub (a b : Nat) : Nat := a ^^^ (a &&& b)
theorem testBit_sub (a b i : Nat) : (sub a b).testBit i = (a.testBit i && !b.testBit i) := by
  simp [sub, Nat.testBit_xor, Nat.testBit_and]
  cases a.testBit i <;> cases b.testBit i <;> rfl
theorem sub_lt {a b n : Nat} (h : a < 2 ^ n) : sub a b < 2 ^ n := by
  unfold sub
  exact Nat.xor_lt_two_pow h (by rw [Nat.and_comm]; exact Nat.and_lt_two_pow _ h)
theorem sub_nat (a b : Nat) (ha : a < 9223372036854775808) (hb : b < 9223372036854775808) : bits .andNot .i64 (a : Int) (b : Int) = ((sub a b : Nat) : Int) := by
  have hs : sub a b < 2 ^ 63 := sub_lt (by omega)
  show IntKind.i64.wrap ((BitVec.ofInt 64 (a : Int) &&& ~~~BitVec.ofInt 64 (b : Int)).toNat : Int) = _
  have e : (BitVec.ofInt 64 (a : Int) &&& ~~~BitVec.ofInt 64 (b : Int)).toNat = sub a b := by
    apply Nat.eq_of_testBit_eq
    intro i
    rw [BitVec.testBit_toNat, BitVec.getLsbD_and, BitVec.getLsbD_not, testBit_sub, ← BitVec.testBit_toNat, ← BitVec.testBit_toNat, ofInt_i64 a ha, ofInt_i64 b hb]
    by_cases hi : i < 64
    · simp [hi]
    · have : a.testBit i = false := Nat.testBit_lt_two_pow (Nat.lt_of_lt_of_le (by omega : a < 2 ^ 64) (Nat.pow_le_pow_right (by omega) (by omega)))
      simp [this]
  rw [e, wrap64_small _ (by omega) (by omega)]
theorem shr_nat (s i : Nat) (hs : s < 9223372036854775808) : (s : Int) / (2 ^ min i 64) = ((s >>> i : Nat) : Int) := by
  rw [Nat.shiftRight_eq_div_pow]
  by_cases h : i ≤ 64
  · rw [Nat.min_eq_left h]
    simp
  · rw [Nat.min_eq_right (by omega)]
    have : 2 ^ 64 ≤ 2 ^ i := Nat.pow_le_pow_right (by omega) (by omega)
    rw [Nat.div_eq_of_lt (by omega)]
    omega
theorem bit_and (s i : Nat) (hs : s < 9223372036854775808) : (bits .and .i64 ((s >>> i : Nat) : Int) 1 == 1) = s.testBit i := by
  have h1 : s >>> i ≤ s := by rw [Nat.shiftRight_eq_div_pow]; exact Nat.div_le_self _ _
  have := and_nat (s >>> i) 1 (by omega) (by omega)
  rw [show ((1 : Nat) : Int) = 1 from rfl] at this
  rw [this, Nat.testBit, Nat.and_one_is_mod, Nat.and_comm, Nat.and_one_is_mod]
  rcases Nat.mod_two_eq_zero_or_one (s >>> i) with h | h <;> simp [h]
theorem bit_mod (s i : Nat) : (((s >>> i : Nat) : Int) % 2 == 1) = s.testBit i := by
  rw [Nat.testBit, Nat.and_comm, Nat.and_one_is_mod]
  rcases Nat.mod_two_eq_zero_or_one (s >>> i) with h | h
  · have h2 : ((s >>> i : Nat) : Int) % 2 = 0 := by omega
    rw [h2, h]; rfl
  · have h2 : ((s >>> i : Nat) : Int) % 2 = 1 := by omega
    rw [h2, h]; rfl
theorem bit_tmod (s i : Nat) : (((s >>> i : Nat) : Int).tmod 2 == 1) = s.testBit i := by
  rw [Int.tmod_eq_emod_of_nonneg (Int.natCast_nonneg _), bit_mod]
/-- is i in the set s? -/
def hasB (s i : Int) : Bool := s.toNat.testBit i.toNat
theorem has_and {s i : Int} (h0 : 0 ≤ s) (h1 : s ≤ 9223372036854775807) (hi : 0 ≤ i) : (bits .and .i64 (s / 2 ^ min i.toNat 64) 1 == 1) = hasB s i := by
  obtain ⟨S, rfl⟩ := Int.eq_ofNat_of_zero_le h0
  rw [shr_nat S _ (by omega), bit_and S _ (by omega)]
  rfl
theorem has_mod {s i : Int} (h0 : 0 ≤ s) (h1 : s ≤ 9223372036854775807) (hi : 0 ≤ i) : ((s / 2 ^ min i.toNat 64).tmod 2 == 1) = hasB s i := by
  obtain ⟨S, rfl⟩ := Int.eq_ofNat_of_zero_le h0
  rw [shr_nat S _ (by omega), bit_tmod S]
  rfl
theorem pow_w {k : Nat} (h : k < 62) : wrap64 (2 ^ k) = ((2 ^ k : Nat) : Int) := by
  have : 2 ^ k ≤ 2 ^ 61 := Nat.pow_le_pow_right (by omega) (by omega)
  rw [show ((2:Int) ^ k) = ((2 ^ k : Nat) : Int) by simp]
  generalize hp : 2 ^ k = p at *
  exact IntWalk.wrap64_in _ ⟨by omega, by omega⟩
theorem or_bit {b k : Nat} (hb : b < 4611686018427387904) (hk : k < 62) : bits .or .i64 (b : Int) (wrap64 (2 ^ k)) = ((b ||| 2 ^ k : Nat) : Int) := by
  rw [pow_w hk]
  have : 2 ^ k ≤ 2 ^ 61 := Nat.pow_le_pow_right (by omega) (by omega)
  exact or_nat _ _ (by omega) (by omega)
theorem or_i {a b : Int} (ha : 0 ≤ a) (ha1 : a < 9223372036854775808) (hb : 0 ≤ b) (hb1 : b < 9223372036854775808) : bits .or .i64 a b = ((a.toNat ||| b.toNat : Nat) : Int) := by
  obtain ⟨A, rfl⟩ := Int.eq_ofNat_of_zero_le ha
  obtain ⟨B, rfl⟩ := Int.eq_ofNat_of_zero_le hb
  exact or_nat A B (by omega) (by omega)
theorem sub_i {a b : Int} (ha : 0 ≤ a) (ha1 : a < 9223372036854775808) (hb : 0 ≤ b) (hb1 : b < 9223372036854775808) : bits .andNot .i64 a b = ((sub a.toNat b.toNat : Nat) : Int) := by
  obtain ⟨A, rfl⟩ := Int.eq_ofNat_of_zero_le ha
  obtain ⟨B, rfl⟩ := Int.eq_ofNat_of_zero_le hb
  exact sub_nat A B (by omega) (by omega)
theorem or_lt {a b n : Nat} (ha : a < 2 ^ n) (hb : b < 2 ^ n) : a ||| b < 2 ^ n := Nat.or_lt_two_pow ha hb
theorem two_lt {k n : Nat} (h : k < n) : 2 ^ k < 2 ^ n := Nat.pow_lt_pow_right (by omega) h
theorem testBit_two (k i : Nat) : (2 ^ k).testBit i = decide (k = i) := Nat.testBit_two_pow

theorem and_i {a b : Int} (ha : 0 ≤ a) (ha1 : a < 9223372036854775808) (hb : 0 ≤ b) (hb1 : b < 9223372036854775808) : bits .and .i64 a b = ((a.toNat &&& b.toNat : Nat) : Int) := by
  obtain ⟨A, rfl⟩ := Int.eq_ofNat_of_zero_le ha
  obtain ⟨B, rfl⟩ := Int.eq_ofNat_of_zero_le hb
  exact and_nat A B (by omega) (by omega)

/-- the elements of a set that are less than k, in order -/
def elemsTo (s : Nat) : Nat → List Int
  | 0 => []
  | k+1 => if s.testBit k then elemsTo s k ++ [(k : Int)] else elemsTo s k
theorem elemsTo_len (s : Nat) : ∀ k, (elemsTo s k).length ≤ k
  | 0 => by simp [elemsTo]
  | k+1 => by
    have := elemsTo_len s k
    simp only [elemsTo]
    split <;> simp <;> omega
theorem mem_elemsTo (s : Nat) (x : Int) : ∀ k, x ∈ elemsTo s k ↔ ∃ i : Nat, i < k ∧ s.testBit i = true ∧ x = i
  | 0 => by simp [elemsTo]
  | k+1 => by
    have ih := mem_elemsTo s x k
    simp only [elemsTo]
    cases hb : s.testBit k
    · rw [if_neg (by simp), ih]
      constructor
      · rintro ⟨i, h1, h2, h3⟩
        exact ⟨i, by omega, h2, h3⟩
      · rintro ⟨i, h1, h2, h3⟩
        have : i ≠ k := fun e => by rw [e, hb] at h2; cases h2
        exact ⟨i, by omega, h2, h3⟩
    · rw [if_pos rfl, List.mem_append, ih]
      constructor
      · rintro (⟨i, h1, h2, h3⟩ | h)
        · exact ⟨i, by omega, h2, h3⟩
        · exact ⟨k, by omega, hb, by simpa using h⟩
      · rintro ⟨i, h1, h2, h3⟩
        by_cases e : i = k
        · exact .inr (by simp [h3, e])
        · exact .inl ⟨i, by omega, h2, h3⟩
theorem elemsTo_more (s k : Nat) (h : s >>> k = 0) : ∀ m, elemsTo s (k + m) = elemsTo s k
  | 0 => rfl
  | m+1 => by
    have hb : s.testBit (k + m) = false := by
      rw [Nat.testBit]
      have : s >>> (k + m) = 0 := by rw [Nat.shiftRight_add, h]; simp
      simp [this]
    show elemsTo s (k + m + 1) = _
    simp only [elemsTo, hb]
    exact elemsTo_more s k h m
/-- all elements of a set below 1024 -/
def elems (s : Nat) : List Int := elemsTo s 10
theorem elems_at {s k : Nat} (h : s >>> k = 0) (hk : k ≤ 10) : elemsTo s k = elems s := by
  have := elemsTo_more s k h (10 - k)
  rw [show k + (10 - k) = 10 from by omega] at this
  exact this.symm
theorem elems_len (s : Nat) : (elems s).length ≤ 10 := elemsTo_len s 10
theorem mem_elems {s : Nat} (hs : s < 1024) {x : Int} : x ∈ elems s ↔ ∃ i : Nat, s.testBit i = true ∧ x = i := by
  rw [elems, mem_elemsTo]
  constructor
  · rintro ⟨i, _, h2, h3⟩
    exact ⟨i, h2, h3⟩
  · rintro ⟨i, h2, h3⟩
    refine ⟨i, ?_, h2, h3⟩
    rcases Nat.lt_or_ge i 10 with h | h
    · exact h
    · have : s < 2 ^ i := Nat.lt_of_lt_of_le hs (Nat.pow_le_pow_right (by omega : 0 < 2) h)
      rw [Nat.testBit_lt_two_pow this] at h2
      cases h2
theorem nth_mem {xs : List Int} {k : Nat} (h : k < xs.length) : nth xs k ∈ xs := by
  rw [nth_get xs k h]; exact List.getElem_mem h
theorem mem_nth {xs : List Int} {x : Int} (h : x ∈ xs) : ∃ k, k < xs.length ∧ nth xs k = x := by
  obtain ⟨k, hk, e⟩ := List.getElem_of_mem h
  exact ⟨k, hk, by rw [nth_get xs k hk, e]⟩

def inB (n lo hi : Int) : Bool := decide (lo ≤ n) && decide (n ≤ hi)
theorem inB_iff {n lo hi : Int} : inB n lo hi = true ↔ lo ≤ n ∧ n ≤ hi := by simp [inB]
theorem inB_no {n lo hi : Int} : inB n lo hi = false ↔ n < lo ∨ hi < n := by
  rw [← Bool.not_eq_true, inB_iff]
  omega

def allB (xs : List Int) (lo hi : Int) : Bool := xs.all (fun x => inB x lo hi)
theorem allB_take (xs : List Int) (lo hi : Int) (k : Nat) (h : k < xs.length) : allB (xs.take (k+1)) lo hi = (allB (xs.take k) lo hi && inB (nth xs k) lo hi) := by
  simp only [allB]
  rw [List.take_succ_eq_append_getElem h, List.all_append]
  simp [nth, h]
theorem allB_false {xs : List Int} {lo hi : Int} {k : Nat} (h : k < xs.length) (h1 : inB (nth xs k) lo hi = false) : allB xs lo hi = false := by
  simp only [allB, List.all_eq_false]
  exact ⟨xs[k], List.getElem_mem h, by simpa [nth, h] using h1⟩
theorem allB_nth {xs : List Int} {lo hi : Int} (h : allB xs lo hi = true) {k : Nat} (hk : k < xs.length) : lo ≤ nth xs k ∧ nth xs k ≤ hi := by
  simp only [allB, List.all_eq_true] at h
  have := inB_iff.1 (h _ (List.getElem_mem hk))
  rwa [← nth_get xs k hk] at this

/-- is it a relation? -/
def relB (n : Int) (xs : List Int) : Bool := inB n 0 10 && decide ((xs.length : Int) = n) && allB xs 0 (2 ^ n.toNat - 1)
theorem relB_iff {n : Int} {xs : List Int} : relB n xs = true ↔ (0 ≤ n ∧ n ≤ 10) ∧ (xs.length : Int) = n ∧ allB xs 0 (2 ^ n.toNat - 1) = true := by
  simp [relB, inB_iff, and_assoc]
theorem pow10 {n : Nat} (h : n ≤ 10) : (1 : Int) ≤ 2 ^ n ∧ (2 : Int) ^ n ≤ 1024 := by
  have h1 : 2 ^ n ≤ 2 ^ 10 := Nat.pow_le_pow_right (by omega) h
  have h2 : 1 ≤ 2 ^ n := Nat.one_le_two_pow
  have h3 : ((2 ^ n : Nat) : Int) = (2 : Int) ^ n := by simp
  omega
theorem full_eq {n : Int} (h0 : 0 ≤ n) (h1 : n ≤ 10) : wrap64 (wrap64 (2 ^ n.toNat) - 1) = 2 ^ n.toNat - 1 := by
  have h2 := pow10 (n := n.toNat) (by omega)
  generalize (2 : Int) ^ n.toNat = p at *
  rw [IntWalk.wrap64_in p ⟨by omega, by omega⟩, IntWalk.wrap64_in _ ⟨by omega, by omega⟩]
structure RelP (n : Int) (xs : List Int) : Prop where
  n0 : 0 ≤ n
  n1 : n ≤ 10
  len : (xs.length : Int) = n
  pos : ∀ k, k < xs.length → 0 ≤ nth xs k
  lt : ∀ k, k < xs.length → nth xs k < 2 ^ xs.length
  small : ∀ k, k < xs.length → nth xs k < 1024
theorem relB_p {n : Int} {xs : List Int} (h : relB n xs = true) : RelP n xs := by
  obtain ⟨⟨h0, h1⟩, h2, h3⟩ := relB_iff.1 h
  have e : n.toNat = xs.length := by omega
  rw [e] at h3
  have hp := pow10 (n := xs.length) (by omega)
  exact ⟨h0, h1, h2, fun k hk => (allB_nth h3 hk).1, fun k hk => by have := (allB_nth h3 hk).2; omega, fun k hk => by have := (allB_nth h3 hk).2; omega⟩

theorem elems_lt {S n : Nat} (hS : S < 2 ^ n) (hn : n ≤ 10) : elems S = elemsTo S n := (elems_at (by rw [Nat.shiftRight_eq_div_pow]; exact Nat.div_eq_of_lt hS) hn).symm

/-- the first one of the longest lists whose first element is below k, if the rest behind i is told -/
def bestTo (rest : Nat → List Int) (S : Nat) : Nat → List Int
  | 0 => []
  | k+1 => if S.testBit k then (if (bestTo rest S k).length ≤ (rest k).length then (k : Int) :: rest k else bestTo rest S k) else bestTo rest S k
theorem bestTo_congr {r r' : Nat → List Int} {S : Nat} : ∀ k, (∀ i, i < k → S.testBit i = true → r i = r' i) → bestTo r S k = bestTo r' S k
  | 0, _ => rfl
  | k+1, h => by
    have ih := bestTo_congr k (fun i hi => h i (by omega))
    simp only [bestTo]
    cases hb : S.testBit k
    · simp [ih]
    · rw [ih, h k (by omega) hb]
theorem bestTo_len {r : Nat → List Int} {S d : Nat} : ∀ k, (∀ i, i < k → (r i).length ≤ d) → (bestTo r S k).length ≤ d + 1
  | 0, _ => by simp [bestTo]
  | k+1, h => by
    have ih := bestTo_len (S := S) k (fun i hi => h i (by omega))
    have h2 := h k (by omega)
    simp only [bestTo]
    split
    · split
      · simp; omega
      · exact ih
    · exact ih
def lngD (fl : List Int) : Nat → Nat → List Int
  | 0, _ => []
  | d+1, S => bestTo (fun i => lngD fl d (S &&& (nth fl i).toNat)) S fl.length
theorem lngD_len (fl : List Int) : ∀ d S, (lngD fl d S).length ≤ d
  | 0, _ => Nat.le_refl _
  | d+1, S => bestTo_len _ (fun i _ => lngD_len fl d _)
/-- the first one of the longest lists of elements of S in which what comes behind i is in fl at i -/
def lng (fl : List Int) (S : Nat) : List Int := lngD fl (S+1) S
theorem lng_len (fl : List Int) (S : Nat) : (lng fl S).length ≤ S + 1 := lngD_len fl _ _
/-- no element comes behind itself -/
structure Flw (fl : List Int) : Prop where
  len : fl.length ≤ 10
  ok : ∀ i, i < fl.length → 0 ≤ nth fl i ∧ nth fl i < 1024 ∧ (nth fl i).toNat.testBit i = false
theorem and_less {S x i : Nat} (hS : S.testBit i = true) (hx : x.testBit i = false) : S &&& x < S := by
  have h1 : S &&& x ≤ S := Nat.and_le_left
  rcases Nat.lt_or_eq_of_le h1 with h | h
  · exact h
  · have : (S &&& x).testBit i = true := by rw [h]; exact hS
    rw [Nat.testBit_and, hx] at this
    simp at this
theorem lngD_eq {fl : List Int} (hf : Flw fl) : ∀ (S d : Nat), S < d → lngD fl d S = lng fl S := by
  intro S
  induction S using Nat.strongRecOn with
  | _ S ih =>
    intro d hd
    obtain ⟨e, rfl⟩ : ∃ e, d = e + 1 := ⟨d - 1, by omega⟩
    show bestTo _ S fl.length = bestTo _ S fl.length
    refine bestTo_congr _ (fun i hi hb => ?_)
    have hl := and_less hb (hf.ok i hi).2.2
    rw [ih _ hl e (by omega), ih _ hl S hl]
theorem lng_eq {fl : List Int} (hf : Flw fl) (S : Nat) : lng fl S = bestTo (fun i => lng fl (S &&& (nth fl i).toNat)) S fl.length := by
  show bestTo _ S fl.length = _
  refine bestTo_congr _ (fun i hi hb => ?_)
  exact lngD_eq hf _ _ (and_less hb (hf.ok i hi).2.2)
def stepL (rest : Nat → List Int) (best : List Int) (x : Int) : List Int := if best.length ≤ (rest x.toNat).length then x :: rest x.toNat else best
theorem fold_best (rest : Nat → List Int) (S : Nat) : ∀ k, (elemsTo S k).foldl (stepL rest) [] = bestTo rest S k
  | 0 => rfl
  | k+1 => by
    have ih := fold_best rest S k
    simp only [elemsTo, bestTo]
    cases hb : S.testBit k
    · simpa using ih
    · rw [if_pos rfl, if_pos rfl, List.foldl_append, ih]
      rfl
theorem fold_take {f : List Int → Int → List Int} {es : List Int} {m : Nat} (h : m < es.length) : (es.take (m+1)).foldl f [] = f ((es.take m).foldl f []) (nth es m) := by
  rw [List.take_succ_eq_append_getElem h, List.foldl_append, nth_get _ _ h]; rfl

/-- the set of the indices below k of the lists that have i -/
def belowTo (xs : List Int) (i : Int) : Nat → Nat
  | 0 => 0
  | k+1 => if hasB (nth xs k) i then belowTo xs i k ||| 2 ^ k else belowTo xs i k
theorem belowTo_lt (xs : List Int) (i : Int) : ∀ k, belowTo xs i k < 2 ^ k
  | 0 => by simp [belowTo]
  | k+1 => by
    have h := belowTo_lt xs i k
    have h2 : 2 ^ k < 2 ^ (k+1) := two_lt (by omega)
    simp only [belowTo]
    split
    · exact or_lt (by omega) h2
    · omega
theorem belowTo_small (xs : List Int) (i : Int) {k : Nat} (h : k ≤ 10) : belowTo xs i k < 1024 := by
  have h1 := belowTo_lt xs i k
  have h2 : 2 ^ k ≤ 2 ^ 10 := Nat.pow_le_pow_right (by omega) h
  omega
theorem belowTo_bit (xs : List Int) (i : Int) (j : Nat) : ∀ k, (belowTo xs i k).testBit j = (decide (j < k) && hasB (nth xs j) i)
  | 0 => by simp [belowTo]
  | k+1 => by
    have h := belowTo_bit xs i j k
    simp only [belowTo]
    by_cases hjk : j = k
    · subst hjk
      cases hb : hasB (nth xs j) i
      · simp [h]
      · simp [Nat.testBit_or, testBit_two]
    · have e : decide (j < k + 1) = decide (j < k) := by
        rw [decide_eq_decide]; omega
      rw [e, ← h]
      have hkj : ¬ k = j := fun e => hjk e.symm
      cases hb : hasB (nth xs k) i <;> simp [Nat.testBit_or, testBit_two, hkj]

def okAtB (xs : List Int) (k : Nat) : Bool := !hasB (nth xs k) k && (List.range xs.length).all (fun j => !hasB (nth xs k) j || sub (nth xs j).toNat (nth xs k).toNat == 0)
/-- is it an order? -/
def ordB (n : Int) (xs : List Int) : Bool := relB n xs && (List.range xs.length).all (okAtB xs)
theorem okAtB_iff {xs : List Int} {k : Nat} : okAtB xs k = true ↔ hasB (nth xs k) k = false ∧ ∀ j, j < xs.length → hasB (nth xs k) j = true → sub (nth xs j).toNat (nth xs k).toNat = 0 := by
  simp only [okAtB, Bool.and_eq_true, Bool.not_eq_true', List.all_eq_true, List.mem_range, Bool.or_eq_true, beq_iff_eq]
  constructor
  · rintro ⟨h1, h2⟩
    exact ⟨h1, fun j hj hb => (h2 j hj).resolve_left (by simp [hb])⟩
  · rintro ⟨h1, h2⟩
    refine ⟨h1, fun j hj => ?_⟩
    cases hb : hasB (nth xs k) j
    · exact .inl rfl
    · exact .inr (h2 j hj hb)
theorem ordB_iff {n : Int} {xs : List Int} : ordB n xs = true ↔ relB n xs = true ∧ ∀ k, k < xs.length → okAtB xs k = true := by
  simp [ordB]
theorem ordB_no {n : Int} {xs : List Int} {k : Nat} (hk : k < xs.length) (h : okAtB xs k = false) : ordB n xs = false := by
  rw [← Bool.not_eq_true, ordB_iff]
  rintro ⟨_, h2⟩
  rw [h2 k hk] at h
  cases h
theorem okAtB_has {xs : List Int} {k : Nat} (h : hasB (nth xs k) k = true) : okAtB xs k = false := by
  simp [okAtB, h]
theorem okAtB_sub {xs : List Int} {k j : Nat} (hj : j < xs.length) (h : hasB (nth xs k) j = true) (h2 : sub (nth xs j).toNat (nth xs k).toNat ≠ 0) : okAtB xs k = false := by
  rw [← Bool.not_eq_true, okAtB_iff]
  rintro ⟨_, h3⟩
  exact h2 (h3 j hj h)
theorem sub_zero {a b : Nat} : sub a b = 0 ↔ ∀ i, a.testBit i = true → b.testBit i = true := by
  constructor
  · intro h i hi
    have := testBit_sub a b i
    rw [h, hi] at this
    simpa using this.symm
  · intro h
    apply Nat.eq_of_testBit_eq
    intro i
    rw [testBit_sub]
    cases ha : a.testBit i
    · simp
    · simp [h i ha]
theorem has_lt {n : Int} {xs : List Int} (hp : RelP n xs) {k : Nat} (hk : k < xs.length) {j : Nat} (h : hasB (nth xs k) j = true) : j < xs.length := by
  rcases Nat.lt_or_ge j xs.length with h' | h'
  · exact h'
  · have h1 := hp.lt k hk
    have h0 := hp.pos k hk
    have h2 : (nth xs k).toNat < 2 ^ j := by
      have : (2 : Nat) ^ xs.length ≤ 2 ^ j := Nat.pow_le_pow_right (by omega) h'
      have e : ((2 ^ xs.length : Nat) : Int) = (2 : Int) ^ xs.length := by simp
      omega
    simp only [hasB] at h
    rw [Int.toNat_natCast, Nat.testBit_lt_two_pow h2] at h
    cases h

theorem ord_rel {n : Int} {xs : List Int} (h : ordB n xs = true) : RelP n xs := relB_p (ordB_iff.1 h).1

theorem ord_flw {n : Int} {xs : List Int} (h : ordB n xs = true) : Flw xs := by
  have hp := ord_rel h
  refine ⟨by have := hp.len; have := hp.n1; omega, fun i hi => ⟨hp.pos i hi, hp.small i hi, ?_⟩⟩
  exact (okAtB_iff.1 ((ordB_iff.1 h).2 i hi)).1
/-- what LongestChain hands back -/
def chnL (n : Int) (xs : List Int) : List Int := if ordB n xs then lng xs (2 ^ xs.length - 1) else []
theorem full_nat' {n : Nat} (h : n ≤ 10) : ((2 : Int) ^ n - 1) = ((2 ^ n - 1 : Nat) : Int) := by
  have h1 := Nat.two_pow_pos n
  have e : ((2 ^ n : Nat) : Int) = (2 : Int) ^ n := by simp
  omega
theorem full_lt {n : Nat} (h : n ≤ 10) : 2 ^ n - 1 < 1024 := by
  have : 2 ^ n ≤ 2 ^ 10 := Nat.pow_le_pow_right (by omega) h
  have := Nat.two_pow_pos n
  omega
theorem chnL_len (n : Int) (xs : List Int) : (chnL n xs).length ≤ 1048576 := by
  unfold chnL
  split
  · rename_i h
    have hp := ord_rel h
    have := lng_len xs (2 ^ xs.length - 1)
    have := full_lt (n := xs.length) (by have := hp.len; have := hp.n1; omega)
    omega
  · simp

theorem wpList_append_none {P : Program} {w : World} {ops : Array Oper} {rest : List Oper} {o : Oper} {a : Act} {Q : Exit → Act → World → Prop} (hgd : o.guard = none) (s x : Operand) (t : TypeId)
    (ho : o.op = .call { callee := .builtin .append, args := #[s, x], argTypes := #[t, t] })
    (base : Nat) (e : TypeId) (i : TypeInfo) (size : Nat) (ht : P.underlying t = some (.slice e)) (hi : P.info? e = some i)
    (v : Value) (n c : Nat) (xs : List Value) (hs : a.eval s = v) (hown : w.ownsRow base e size v n xs) (hx : a.eval x = .slice none 0 c)
    (h : wpList P ops Q rest (a.put o.dst v) w) : wpList P ops Q (o :: rest) a w := by
  refine wpList_plain hgd fun K hK => ?_
  have hrun : (Builtin.append_ #[t, t] o.type #[v, .slice none 0 c]).run P w = .ok v w := by
    rcases hown.2 with ⟨rfl, rfl⟩ | ⟨g, cap, cur, rfl, _, _, hnc, _⟩
    · simp [Builtin.append_, run_underlying ht, sizeOf, typeInfo, hi, Builtin.lenOf, Builtin.firstCells]
    · simp [Builtin.append_, run_underlying ht, sizeOf, typeInfo, hi, Builtin.lenOf, Builtin.firstCells, hnc, storeCells]
  unfold Oper.wp
  simp [execOp, ho, resolve, invoke, builtin, hs, hx, hrun, Result.andThen]
  exact hK _ _ h
theorem rd_news {w : World} {ad : Addr} {xs : List Int} (hx : Rd w (some ad) xs) : ∀ j u, (xs.map (Value.int .i64))[j]? = some u → w.cell? (ad.add j) = some u := by
  intro j u hj
  rw [List.getElem?_map, Option.map_eq_some_iff] at hj
  obtain ⟨x, hx1, rfl⟩ := hj
  obtain ⟨hlt, e⟩ := List.getElem?_eq_some_iff.1 hx1
  obtain ⟨b, off, e1, _, hc⟩ := hx.cell j hlt
  simp only [Option.some.injEq] at e1
  subst e1
  rw [Addr.add_lit, hc, nth_get xs j hlt, e]
theorem ints_one (xs : List Int) : ∀ u ∈ xs.map (Value.int .i64), u.oneCell' = true := by
  intro u hu
  obtain ⟨x, _, rfl⟩ := List.mem_map.1 hu
  rfl

theorem OwnI.new (w : World) (xs : List Int) (h : xs.length ≤ 1048576) : OwnI (w.alloc (.cells (xs.map (Value.int .i64)).toArray 3)) w.heap.size (.slice (some ⟨w.heap.size, 0, none⟩) xs.length xs.length) xs :=
  ⟨by simp, .inr ⟨w.heap.size, xs.length, (xs.map (Value.int .i64)).toArray, rfl, Nat.le_refl _, heap_alloc_new w _, Nat.le_refl _, by unfold maxLen; omega, by simp, by simp [List.take_of_length_le]⟩⟩

theorem OwnI.capLe {w : World} {B n cap : Nat} {a : Option Addr} {xs : List Int} (h : OwnI w B (.slice a n cap) xs) : n ≤ cap := by
  rcases h.2 with ⟨e, _⟩ | ⟨g, cap', cur, e, _, _, hc, _⟩
  · simp only [Value.slice.injEq] at e
    omega
  · simp only [Value.slice.injEq] at e
    omega
theorem Rd.take {w : World} {a : Option Addr} {xs : List Int} (h : Rd w a xs) (k : Nat) : Rd w a (xs.take k) :=
  ⟨Nat.le_trans (by rw [List.length_take]; exact Nat.min_le_right _ _) h.len, fun j hj => by
    have hj' : j < xs.length ∧ j < k := by rw [List.length_take] at hj; omega
    obtain ⟨b, off, e, hl, hc⟩ := h.cell j hj'.1
    refine ⟨b, off, e, hl, hc.trans ?_⟩
    simp [nth, List.getD_eq_getElem?_getD, List.getElem?_take, hj'.2]⟩

theorem lit_own (w : World) (x : Int) (B : Nat) (hB : B ≤ w.heap.size) : (w.alloc (.cells #[.int .i64 x] 3)).ownsRow B 3 1 (.slice (some ⟨w.heap.size, 0, none⟩) 1 1) 1 [.int .i64 x] := by
  have h := (OwnI.new w [x] (by simp)).mono hB
  exact h

/-- an append of a whole slice of integers, a nil one too, at a step of a region that draws its order -/
theorem step_append_src {P : Program} {w : World} {ops : Array Oper} {o : Oper} {a : Act} {K : Act → World → Prop} {Q : Exit → Act → World → Prop} {E : Prop} (hgd : o.guard = none) (s x : Operand) (t : TypeId)
    (ho : o.op = .call { callee := .builtin .append, args := #[s, x], argTypes := #[t, t] })
    (base : Nat) (e : TypeId) (i : TypeInfo) (z : Value) (bytes : Nat) (ht : P.underlying t = some (.slice e)) (hi : P.info? e = some i) (hz : i.zero = some z)
    (hsize : i.size = 1) (hby : i.bytes = bytes) (hzs : z.cells.size = 1)
    (v : Value) (n : Nat) (xs : List Value) (hs : a.eval s = v) (hown : w.ownsRow base e 1 v n xs)
    (ad : Option Addr) (c : Nat) (R : List Int) (hx : a.eval x = .slice ad R.length c) (hrd : Rd w ad R)
    (h63 : n + R.length ≤ maxLen) (hbytes : (n + R.length) * bytes ≤ 140737488355328) (hbase : base ≤ w.heap.size)
    (h : ∀ v' w', w'.ownsRow base e 1 v' (n + R.length) (xs ++ R.map (Value.int .i64)) → w.grownBy w' v.ownBlock → K (a.put o.dst v') w') :
    if Region.wanted o (yielded ops a.tmps) = true then Oper.wp P o a w K Q else E := by
  have hw : Region.wanted o (yielded ops a.tmps) = true := by simp [Region.wanted, hgd]
  rw [if_pos hw]
  cases ad with
  | some ad => exact wp_append_own w s x t ho base e i z 1 bytes ht hi hz hsize hby hzs (by omega) v n xs hs hown ad R.length c (R.map (Value.int .i64)) hx (by rw [List.length_map, Nat.mul_one]) (rd_news hrd) (ints_one R) h63 hbytes hbase (fun v' w' h2 h3 _ => h v' w' h2 h3)
  | none =>
    have hR : R = [] := by
      rcases R with _ | ⟨y, ys⟩
      · rfl
      · obtain ⟨b, off, e, _⟩ := hrd.cell 0 (by simp)
        cases e
    subst hR
    have hrun : (Builtin.append_ #[t, t] o.type #[v, .slice none 0 c]).run P w = .ok v w := by
      rcases hown.2 with ⟨rfl, rfl⟩ | ⟨g, cap, cur, rfl, _, _, hnc, _⟩
      · simp [Builtin.append_, run_underlying ht, sizeOf, typeInfo, hi, Builtin.lenOf, Builtin.firstCells]
      · simp [Builtin.append_, run_underlying ht, sizeOf, typeInfo, hi, Builtin.lenOf, Builtin.firstCells, hnc, storeCells]
    have h2 := h v w (by simpa using hown) (World.grownBy.refl _ _)
    have hx' : a.eval x = .slice none 0 c := hx
    unfold Oper.wp
    simp [execOp, ho, resolve, invoke, builtin, hs, hx', hrun, Result.andThen]
    exact h2

theorem orHas_any (s i : Int) (w : World) (h0 : 0 ≤ s) (h1 : s ≤ 9223372036854775807) (hi : 0 ≤ i) :
    Calls Try.prog 74 #[.int .i64 s, .int .i64 i] w fun e w' => e = .returned (.bool (hasB s i)) ∧ w = w' := by
  have H := Lib.hid (has_mod h0 h1 hi)
  go_enter Try.func74, Try.ntmps74
  go_wp2
  go_ret
  exact ⟨ret_bool H.out, rfl⟩

theorem orList_any (s : Int) (w : World) (h0 : 0 ≤ s) (h1 : s < 1024) :
    Calls Try.prog 75 #[.int .i64 s] w fun e w' => ∃ a cap, e = .returned (.slice a (elems s.toNat).length cap) ∧ OwnI w' w.heap.size (.slice a (elems s.toNat).length cap) (elems s.toNat) ∧ Below w.heap.size w w' := by
  obtain ⟨S, rfl⟩ := Int.eq_ofNat_of_zero_le h0
  have hS : S < 1024 := by omega
  obtain ⟨i0, hi, hz0, hz1, hz2⟩ := info_parts infoInt
  have hsh : ∀ k : Nat, (S : Int) / 2 ^ min k 64 = ((S >>> k : Nat) : Int) := fun k => shr_nat S k (by omega)
  have HSH := Lib.hid hsh
  clear hsh
  go_enter Try.func75, Try.ntmps75
  go_wp2_with fail
  go_loopw [3, 4] (fun v i wr => ∃ k : Nat, k ≤ 10 ∧ i = .int .i64 k ∧ wr.ownsRow w.heap.size 3 1 v (elemsTo S k).length ((elemsTo S k).map (Value.int .i64)) ∧ Below w.heap.size w wr) (fun _ i _ => 10 - (intOf i).toNat)
  case atStart => exact ⟨0, by omega, rfl, by simpa [elemsTo] using World.ownsRow_nil _ _ _ _, Below.refl _ _⟩
  case round =>
    obtain ⟨k, hk, rfl, hown, hb⟩ := hrel
    have hln := elemsTo_len S k
    have hsz := hb.size
    have hq := HSH.out k
    rw [show min k 64 = k from by omega] at hq
    by_cases hz : S >>> k = 0
    · have ht : ¬ (0 : Int) < (S : Int) / 2 ^ k := by rw [hq, hz]; omega
      have HZ := Lib.hid hz
      clear hq hz
      go_wp2_with fail
      go_ret
      have e := elems_at HZ.out hk
      rw [e] at hown
      obtain ⟨a, cap, rfl⟩ := OwnI.form hown
      exact ⟨a, cap, rfl, hown, hb⟩
    · have ht : (0 : Int) < (S : Int) / 2 ^ k := by rw [hq]; exact Int.natCast_pos.2 (Nat.pos_of_ne_zero hz)
      have hk9 : k < 10 := by
        rcases Nat.lt_or_ge k 10 with h | h
        · exact h
        · obtain rfl : k = 10 := by omega
          exact absurd (by rw [Nat.shiftRight_eq_div_pow]; exact Nat.div_eq_of_lt (by omega)) hz
      clear hq hz
      have hhas : hasB (S : Int) (k : Int) = S.testBit k := rfl
      cases hin : S.testBit k
      · rw [hin] at hhas
        go_wp2_with (go_at_call 74; refine (orHas_any _ _ _ (by omega) (by omega) (by omega)).mono ?_; rintro e w' ⟨rfl, rfl⟩)
        go_roundw
        case rel => exact ⟨k + 1, by omega, by go_num, by simpa [elemsTo, hin] using hown, hb⟩
        case measure => simp [intOf]; omega
      · rw [hin] at hhas
        go_wp2_with (first | (go_at_call 74; refine (orHas_any _ _ _ (by omega) (by omega) (by omega)).mono ?_; rintro e w' ⟨rfl, rfl⟩) | (at_builtin; refine wpList_append_own _ rfl _ _ 22 rfl w.heap.size 3 i0 (.int .i64 0) 1 8 Try.underlying22 hi hz0 hz1 hz2 rfl (by decide) _ _ _ rfl (hown.alloc _) ⟨wr.heap.size, 0, none⟩ 1 1 [.int .i64 k] rfl rfl ?c1 ?c2 ?c3 ?c4 ?c5 ?_))
        case c1 =>
          intro j u hj
          match j, hj with
          | 0, hj => simp at hj; subst hj; simp [Addr.add]
        case c2 => intro u hu; simp at hu; subst hu; rfl
        case c3 => unfold maxLen; omega
        case c4 => omega
        case c5 => simp; omega
        · intro v' w1 hown' hgrow _
          have hlt := World.ownsRow.lt hown
          have hb1 : Below w.heap.size w w1 := (hb.alloc hsz _).grown hgrow (by simp; omega) (fun b e => (hlt b e).1)
          have HO := Lib.hid hown'
          clear hown' hgrow hown
          go_wp2_with fail
          go_roundw
          case rel => exact ⟨k + 1, by omega, by go_num, by simpa [elemsTo, hin] using HO.out, hb1⟩
          case measure => simp [intOf]; omega

/-- the set of the elements that are indifferent to k -/
def freeN (xs : List Int) (k : Nat) : Nat := sub (2 ^ xs.length - 1) (((nth xs k).toNat ||| belowTo xs k xs.length) ||| 2 ^ k)
theorem free_val {n : Int} {xs : List Int} (hp : RelP n xs) {k : Nat} (hk : k < xs.length) :
    bits .andNot .i64 (wrap64 (wrap64 (2 ^ n.toNat) - 1)) (bits .or .i64 (bits .or .i64 (nth xs k) ((belowTo xs k xs.length : Nat) : Int)) (wrap64 (2 ^ k))) = ((freeN xs k : Nat) : Int) := by
  have hl := hp.len
  have hn := hp.n1
  have h0 := hp.n0
  have e : n.toNat = xs.length := by omega
  have hs := hp.small k hk
  have h1 := hp.pos k hk
  have hb := belowTo_small xs k (k := xs.length) (by omega)
  have hpw := pow10 (n := xs.length) (by omega)
  rw [full_eq h0 hn, e]
  rw [or_i h1 (by omega) (by omega) (by omega)]
  have ho : (nth xs k).toNat ||| (belowTo xs k xs.length) < 2 ^ 10 := or_lt (by omega) (by omega)
  rw [show (((belowTo xs k xs.length : Nat) : Int)).toNat = belowTo xs k xs.length from rfl]
  rw [or_bit (by omega) (by omega)]
  have ho2 : ((nth xs k).toNat ||| (belowTo xs k xs.length)) ||| 2 ^ k < 2 ^ 10 := or_lt ho (two_lt (by omega))
  rw [sub_i (by omega) (by omega) (by omega) (by omega)]
  have e2 : ((2:Int) ^ xs.length - 1).toNat = 2 ^ xs.length - 1 := by
    have : ((2 ^ xs.length : Nat) : Int) = (2 : Int) ^ xs.length := by simp
    omega
  rw [e2]
  rfl
theorem free_val2 {n : Int} {xs : List Int} (hp : RelP n xs) {k : Nat} (hk : k < xs.length) :
    bits .andNot .i64 (2 ^ n.toNat - 1) (bits .or .i64 (bits .or .i64 (nth xs k) ((belowTo xs k xs.length : Nat) : Int)) (wrap64 (2 ^ k))) = ((freeN xs k : Nat) : Int) := by
  rw [← free_val hp hk, full_eq hp.n0 hp.n1]

/-- the list of f 0, .., f (k - 1) -/
def fmap (f : Nat → Int) (k : Nat) : List Int := (List.range k).map f
theorem fmap_len (f : Nat → Int) (k : Nat) : (fmap f k).length = k := by simp [fmap]
theorem fmap_nth (f : Nat → Int) {k i : Nat} (h : i < k) : nth (fmap f k) i = f i := by simp [nth, fmap, h]
theorem fmap_succ (f : Nat → Int) (k : Nat) : fmap f (k+1) = fmap f k ++ [f k] := by simp [fmap, List.range_succ]
/-- one store more into a row that was made -/
theorem fill_step (f : Nat → Int) (m k : Nat) (h : k < m) :
    ((fmap f k ++ List.replicate (m - k) (0:Int)).map (Value.int .i64)).set k (.int .i64 (f k)) = (fmap f (k+1) ++ List.replicate (m - (k+1)) (0:Int)).map (Value.int .i64) := by
  apply List.ext_getElem?
  intro j
  rw [List.getElem?_set]
  by_cases hj : k = j
  · subst hj
    rw [if_pos rfl, if_pos (by simp [fmap_len]; omega), List.getElem?_map, List.getElem?_append_left (by rw [fmap_len]; omega)]
    simp [fmap]
  · simp only [hj, if_false, List.getElem?_map, List.getElem?_append, fmap_len, List.getElem?_replicate]
    by_cases h1 : j < k
    · have h2 : j < k + 1 := by omega
      simp [h1, h2, fmap]
    · have h2 : ¬ j < k + 1 := by omega
      have h3 : j - k < m - k ↔ j - (k+1) < m - (k+1) := by omega
      simp [h1, h2, h3]
theorem fill_end (f : Nat → Int) (m : Nat) : fmap f m ++ List.replicate (m - m) (0:Int) = fmap f m := by simp
/-- the row that a make of m integers has made -/
theorem made_ints {w1 : World} {B : Nat} {v : Value} {m : Nat} (f : Nat → Int) (h : w1.ownsRow B 3 1 v m (madeCells (Value.int .i64 0).cells (m * 1)).toList) :
    w1.ownsRow B 3 1 v m ((fmap f 0 ++ List.replicate (m - 0) (0:Int)).map (Value.int .i64)) := by
  simpa [Value.cells, toList_madeCells_one, fmap] using h

/-- the elements that may come behind i in an antichain -/
def latE (xs : List Int) (i : Nat) : Int := ((sub (freeN xs i) (2 ^ i - 1) : Nat) : Int)
def lats (xs : List Int) : List Int := fmap (latE xs) xs.length
theorem lats_len (xs : List Int) : (lats xs).length = xs.length := fmap_len _ _
theorem freeN_lt {xs : List Int} (h : xs.length ≤ 10) (i : Nat) : freeN xs i < 1024 := by
  have h1 : 2 ^ xs.length - 1 < 2 ^ 10 := by
    have : 2 ^ xs.length ≤ 2 ^ 10 := Nat.pow_le_pow_right (by omega) h
    have := Nat.two_pow_pos xs.length
    omega
  exact sub_lt h1
theorem lats_flw {xs : List Int} (h : xs.length ≤ 10) : Flw (lats xs) :=
  ⟨by rw [lats_len]; exact h, fun i hi => by
    rw [lats_len] at hi
    have e : nth (lats xs) i = latE xs i := fmap_nth _ hi
    have h2 : sub (freeN xs i) (2 ^ i - 1) < 2 ^ 10 := sub_lt (freeN_lt h i)
    rw [e]
    refine ⟨by unfold latE; omega, by unfold latE; omega, ?_⟩
    unfold latE
    rw [Int.toNat_natCast, testBit_sub, freeN, testBit_sub]
    simp [Nat.testBit_or, testBit_two]⟩
theorem lats_nth {xs : List Int} {i : Nat} (hi : i < xs.length) : (nth (lats xs) i).toNat = sub (freeN xs i) (2 ^ i - 1) := by
  rw [show nth (lats xs) i = latE xs i from fmap_nth _ hi, latE, Int.toNat_natCast]
theorem sub_and (S f m : Nat) : sub (S &&& f) m = S &&& sub f m := by
  apply Nat.eq_of_testBit_eq
  intro i
  rw [testBit_sub, Nat.testBit_and, Nat.testBit_and, testBit_sub, Bool.and_assoc]
/-- what LargestAntichain hands back -/
def antL (n : Int) (xs : List Int) : List Int := if ordB n xs then lng (lats xs) (2 ^ xs.length - 1) else []
theorem antL_len (n : Int) (xs : List Int) : (antL n xs).length ≤ 1048576 := by
  unfold antL
  split
  · rename_i h
    have hp := ord_rel h
    have := lng_len (lats xs) (2 ^ xs.length - 1)
    have h2 : 2 ^ xs.length ≤ 2 ^ 10 := Nat.pow_le_pow_right (by omega) (by have := hp.len; have := hp.n1; omega)
    omega
  · simp
theorem full_nat {n : Nat} (h : n ≤ 10) : ((2 : Int) ^ n - 1) = ((2 ^ n - 1 : Nat) : Int) := by
  have h1 := Nat.two_pow_pos n
  have e : ((2 ^ n : Nat) : Int) = (2 : Int) ^ n := by simp
  omega

theorem chain_val {n : Int} {xs : List Int} (hp : RelP n xs) {S i : Nat} (hS : S < 1024) (hi : i < xs.length) : bits .and .i64 (nth xs i) (S : Int) = ((S &&& (nth xs i).toNat : Nat) : Int) := by
  have h0 := hp.pos i hi
  have h1 := hp.small i hi
  rw [and_i h0 (by omega) (by omega) (by omega), Int.toNat_natCast, Nat.and_comm]
set_option maxRecDepth 100000 in
theorem orLonger_any (n : Int) (xs : List Int) (cap : Nat) (ho : ordB n xs = true) : ∀ (S : Nat) (a : Option Addr) (w : World), S < 2 ^ xs.length → Rd w a xs →
    Calls Try.prog 52 #[.agg #[.int .i64 n, .slice a xs.length cap], .int .i64 S] w fun e w' => ∃ a' cap', e = .returned (.slice a' (lng xs S).length cap') ∧ OwnI w' w.heap.size (.slice a' (lng xs S).length cap') (lng xs S) ∧ Below w.heap.size w w' := by
  have hp := ord_rel ho
  have hl10 : xs.length ≤ 10 := by have := hp.len; have := hp.n1; omega
  have hf := ord_flw ho
  clear ho
  intro S
  induction S using Nat.strongRecOn with
  | _ S ih =>
    intro a w hS0 hx
    obtain ⟨i0, hi, hz0, hz1, hz2⟩ := info_parts infoInt
    have hS : S < 1024 := Nat.lt_of_lt_of_le hS0 (Nat.pow_le_pow_right (by omega) hl10)
    have HIH := Lib.hid ih
    have HS0 := Lib.hid hS0
    have HL := Lib.hid (lng_eq hf S)
    obtain ⟨rest, hrest⟩ : ∃ rest : Nat → List Int, rest = fun i => lng xs (S &&& (nth xs i).toNat) := ⟨_, rfl⟩
    have HR := Lib.hid hrest
    have hrl : ∀ i, (rest i).length ≤ 1024 := fun i => by
      rw [hrest]
      have := lng_len xs (S &&& (nth xs i).toNat)
      have h2 : S &&& (nth xs i).toNat ≤ S := Nat.and_le_left
      simp only; omega
    obtain ⟨es, hes⟩ : ∃ es, es = elems S := ⟨_, rfl⟩
    have hel : ∀ m, m < es.length → ∃ i : Nat, i < xs.length ∧ S.testBit i = true ∧ nth es m = (i : Int) := fun m hm => by
      rw [hes] at hm ⊢
      have h1 := nth_mem hm
      rw [mem_elems hS] at h1
      obtain ⟨i, hb, e⟩ := h1
      refine ⟨i, ?_, hb, e⟩
      rcases Nat.lt_or_ge i xs.length with h | h
      · exact h
      · have : S < 2 ^ i := Nat.lt_of_lt_of_le hS0 (Nat.pow_le_pow_right (by omega) h)
        rw [Nat.testBit_lt_two_pow this] at hb
        cases hb
    have hfin : es.foldl (stepL rest) [] = bestTo rest S xs.length := by rw [hes, elems_lt hS0 hl10, fold_best]
    obtain ⟨bst, hbst⟩ : ∃ bst : Nat → List Int, bst = fun m => (es.take m).foldl (stepL rest) [] := ⟨_, rfl⟩
    have hb0 : bst 0 = [] := by simp [hbst]
    have hbs : ∀ m, m < es.length → bst (m+1) = stepL rest (bst m) (nth es m) := fun m hm => by rw [hbst]; exact fold_take hm
    have hbe : bst es.length = bestTo rest S xs.length := by rw [← hfin, hbst]; simp
    have hbl : ∀ m, m ≤ es.length → (bst m).length ≤ 1025 := by
      intro m
      induction m with
      | zero => intro _; rw [hb0]; simp
      | succ m ih =>
        intro hm
        rw [hbs m (by omega), stepL]
        have h1 := ih (by omega)
        have h2 := hrl (nth es m).toNat
        split
        · simp; omega
        · exact h1
    have hesl : es.length ≤ 10 := by rw [hes]; exact elems_len _
    have HES := Lib.hid hes
    have HRL := Lib.hid hrl
    have HBL := Lib.hid hbl
    have HEL := Lib.hid hel
    have HB0 := Lib.hid hb0
    have HBS := Lib.hid hbs
    have HBE := Lib.hid hbe
    have S0 : (0 : Int) ≤ (S : Int) := by omega
    have S1 : (S : Int) < 1024 := by omega
    clear ih hrest hrl hbl hel hb0 hbs hbe hfin hbst hS0 hes
    go_enter Try.func52, Try.ntmps52
    go_wp2_with fail
    refine (orList_any _ _ S0 S1).mono ?_
    rw [Int.toNat_natCast, ← HES.out]
    rintro e w1 ⟨a1, cap1, rfl, ho1, hb1⟩
    have A1 : Box2 w1 w.heap.size (.int .i64 n) (.slice a xs.length cap) := (Box2.new w _ _ _).below hb1
    have bw1 : Below w.heap.size w w1 := Below.trans (by repeat (first | exact Below.refl _ _ | assumption | refine Below.alloc ?_ (by first | exact Nat.le_refl _ | (simp only [World.size_alloc, World.size_setCell, World.size_drew]; omega) | omega) _ | refine Below.setCell ?_ (by first | exact Nat.le_refl _ | (simp only [World.size_alloc, World.size_setCell, World.size_drew]; omega) | omega) _ | refine Below.drew ?_)) (hb1.mono (by first | (simp only [World.size_alloc, World.size_setCell, World.size_drew]; omega) | omega))
    have hre := ho1.rd
    have hz1' : w.heap.size + 1 ≤ w1.heap.size := by have := A1.1; omega
    clear hb1 ho1
    go_wp2_with fail
    go_loopw [5, 12] (fun v i wr => ∃ (k : Nat) (av : Option Addr) (cv : Nat), k ≤ es.length ∧ i = .int .i64 k ∧ v = .slice av (bst k).length cv ∧ OwnI wr w1.heap.size (.slice av (bst k).length cv) (bst k) ∧ Below w1.heap.size w1 wr) (fun _ i _ => es.length - (intOf i).toNat)
    case atStart => exact ⟨0, none, 0, Nat.zero_le _, rfl, by rw [HB0.out]; rfl, by rw [HB0.out]; exact OwnI.nil _ _, Below.refl _ _⟩
    case round =>
      obtain ⟨k, av, cv, hk, rfl, rfl, hown, hb⟩ := hrel
      have hbk := HBL.out k hk
      have hA := A1.below hb
      have ⟨zA, cA, dA⟩ := hA
      have bwr := bw1.trans (hb.mono bw1.size)
      by_cases hlt : k < es.length
      · obtain ⟨x, hxl, hbit, hxe⟩ := HEL.out k hlt
        obtain ⟨b, off, rfl, hbl, hck⟩ := (hre.below hb).cell k hlt
        rw [hxe] at hck
        have hrv := chain_val hp hS hxl
        have hless := and_less hbit (hf.ok x hxl).2.2
        have hlt2 : S &&& (nth xs x).toNat < 2 ^ xs.length := Nat.lt_of_le_of_lt Nat.and_le_left HS0.out
        have hcall := fun (wq : World) (hq : Rd wq a xs) => HIH.out (S &&& (nth xs x).toNat) hless a wq hlt2 hq
        have hrk : lng xs (S &&& (nth xs x).toNat) = rest x := by rw [HR.out]
        rw [hrk] at hcall
        have hbest : bst (k+1) = if (bst k).length ≤ (rest x).length then (x : Int) :: rest x else bst k := by
          rw [HBS.out k hlt, hxe, stepL, Int.toNat_natCast]
        have HC := Lib.hid hcall
        have HA := Lib.hid hrv
        have HBT := Lib.hid hbest
        have hrk2 := HRL.out x
        clear hcall hrv hless hlt2 hrk hbest hbit hxe
        obtain ⟨b4, off4, rfl, hbl4, hc4⟩ := (hx.below bwr).cell x hxl
        have x0 : (0 : Int) ≤ (x : Int) := by omega
        have x1 : (x : Int) < (xs.length : Int) := by omega
        have hsz := hb.size
        have HLA : Hid (OwnI ((wr.alloc (.cells #[.int .i64 (x : Int)] 3)).drew) w1.heap.size (.slice (some ⟨wr.heap.size, 0, none⟩) 1 1) [(x : Int)]) := lit_own wr (x : Int) w1.heap.size hsz
        obtain ⟨R, hR⟩ : ∃ R, R = rest x := ⟨_, rfl⟩
        have HRR := Lib.hid hR
        rw [← hR] at hrk2
        have hCR := HC.out
        rw [← hR] at hCR
        have HC2 := Lib.hid hCR
        clear hR hCR HC
        go_wp2_with fail
        go_region_law (first | (refine step_append_src (by rfl) _ _ _ (by rfl) w1.heap.size 3 i0 (.int .i64 0) 8 Try.underlying22 hi hz0 hz1 hz2 rfl (.slice (some ⟨wr.heap.size, 0, none⟩) 1 1) 1 [.int .i64 (x : Int)] (by rfl) (by exact OwnI.below HLA.out hb3 (Nat.le_refl _)) a3 c3 R (by rfl) ho3.rd (by unfold maxLen; omega) (by omega) (by have := ht3.size; omega) ?_; intro v5 w5 ho5 hg5; have b5 : Below wr.heap.size wr w5 := ht3.trans (below_of_grown hg5 (fun b e => by simp [Value.ownBlock] at e; omega) ht3.size)) | (refine step_append_src (by rfl) _ _ _ (by rfl) w1.heap.size 3 i0 (.int .i64 0) 8 Try.underlying22 hi hz0 hz1 hz2 rfl (.slice (some ⟨w3.heap.size, 0, none⟩) 1 1) 1 [.int .i64 (x : Int)] (by rfl) (by exact lit_own w3 (x : Int) w1.heap.size (by have := ht3.size; omega)) a3 c3 R (by rfl) (by exact ho3.rd.alloc _) (by unfold maxLen; omega) (by omega) (by have := ht3.size; simp; omega) ?_; intro v5 w5 ho5 hg5; have b5 : Below wr.heap.size wr w5 := (ht3.alloc ht3.size _).trans (below_of_grown hg5 (fun b e => by have := ht3.size; simp [Value.ownBlock] at e; omega) (by have := ht3.size; simp; omega))) | (go_simp; go_at_call 52; rw [HA.out]; refine (HC2.out _ (hx.below (by exact bwr.trans (Below.mono (B := wr.heap.size) (by repeat (first | exact Below.refl _ _ | assumption | refine Below.alloc ?_ (by first | exact Nat.le_refl _ | (simp only [World.size_alloc, World.size_setCell, World.size_drew]; omega) | omega) _ | refine Below.setCell ?_ (by first | exact Nat.le_refl _ | (simp only [World.size_alloc, World.size_setCell, World.size_drew]; omega) | omega) _ | refine Below.drew ?_)) bwr.size)))).mono ?_; rintro e w3 ⟨a3, c3, rfl, ho3, hb3⟩; have ht3 : Below wr.heap.size wr w3 := Below.trans (by repeat (first | exact Below.refl _ _ | assumption | refine Below.alloc ?_ (by first | exact Nat.le_refl _ | (simp only [World.size_alloc, World.size_setCell, World.size_drew]; omega) | omega) _ | refine Below.setCell ?_ (by first | exact Nat.le_refl _ | (simp only [World.size_alloc, World.size_setCell, World.size_drew]; omega) | omega) _ | refine Below.drew ?_)) (hb3.mono (by first | (simp only [World.size_alloc, World.size_setCell, World.size_drew]; omega) | omega))))
        all_goals
          have o5 : OwnI w5 w1.heap.size v5 ((x : Int) :: R) := by
            unfold OwnI
            rw [List.length_cons, List.map_cons, Nat.add_comm]
            exact ho5
          have bw5 := hb.trans (b5.mono hb.size)
          have o6 := hown.below b5 (Nat.le_refl _)
          obtain ⟨a5, c5, rfl⟩ := o5.form
          clear ho5 hg5 ho3 hb3 ht3 b5 hown
          by_cases hle : (bst k).length ≤ R.length
          · have hd : (bst k).length < R.length + 1 := by omega
            have hd2 : ((bst k).length : Int) < (R.length : Int) + 1 := by omega
            have HB := Lib.hid (show bst (k+1) = (x : Int) :: R by rw [HBT.out, HRR.out, if_pos (by rw [← HRR.out]; exact hle)])
            have HO5 := Lib.hid o5
            clear o5 o6
            go_wp2_with fail
            go_roundw
            case rel => exact ⟨k + 1, a5, c5, by omega, by go_num, by rw [HB.out]; rfl, by rw [HB.out]; exact HO5.out, bw5⟩
            case measure => simp [intOf]; omega
          · have hd : ¬ (bst k).length < R.length + 1 := by omega
            have hd2 : ¬ ((bst k).length : Int) < (R.length : Int) + 1 := by omega
            have HB := Lib.hid (show bst (k+1) = bst k by rw [HBT.out, if_neg (by rw [← HRR.out]; exact hle)])
            clear o5
            go_wp2_with fail
            go_roundw
            case rel => exact ⟨k + 1, av, cv, by omega, by go_num, by rw [HB.out], by rw [HB.out]; exact o6, bw5⟩
            case measure => simp [intOf]; omega
      · obtain rfl : k = es.length := by omega
        have HE : Hid (lng xs S = bst es.length) := by rw [Hid, HL.out, HBE.out, HR.out]
        go_wp2_with fail
        refine bodyPost_ret (v := .slice av (bst es.length).length cv) (by simp [results, Try.results52, go_sem]) rfl ?_
        exact ⟨av, cv, by rw [HE.out], by rw [HE.out]; exact hown.mono bw1.size, bwr⟩

theorem l1In_any (n lo hi : Int) (w : World) :
    Calls Try.prog 79 #[.int .i64 n, .int .i64 lo, .int .i64 hi] w fun e w' => e = .returned (.bool (inB n lo hi)) ∧ w = w' := by
  go_enter Try.func79, Try.ntmps79
  go_wp2
  all_goals (go_ret; exact ⟨ret_bool (by simp [inB]; try omega), rfl⟩)
theorem l1In_is {n lo hi : Int} {b : Bool} (h : inB n lo hi = b) (w : World) (m : Nat) :
    Calls Try.prog 79 #[.int .i64 n, .int .i64 lo, .int .i64 hi] (w.drewN m) fun e w' => e = .returned (.bool b) ∧ ∃ k, w' = w.drewN k :=
  Calls.quiet_of_same ((l1In_any n lo hi (w.drewN m)).mono (fun e w' hh => ⟨by rw [← h]; exact hh.1, hh.2.symm⟩))

theorem l1All_any (a : Option Addr) (xs : List Int) (cap : Nat) (lo hi : Int) (w : World) (hx : Rd w a xs) :
    Calls Try.prog 89 #[.slice a xs.length cap, .int .i64 lo, .int .i64 hi] w fun e w' => e = .returned (.bool (allB xs lo hi)) ∧ w = w' := by
  have hlen := hx.len
  go_enter Try.func89, Try.ntmps89
  go_wp2_with fail
  go_loop [11] (fun i => ∃ k : Nat, k ≤ xs.length ∧ i = .int .i64 k ∧ allB (xs.take k) lo hi = true) (fun i => xs.length - (intOf i).toNat)
  case atStart => exact ⟨0, Nat.zero_le _, rfl, rfl⟩
  case round =>
    obtain ⟨k, hk, rfl, hall⟩ := hrel
    by_cases hlt : k < xs.length
    · obtain ⟨b, off, rfl, hbl, hc⟩ := hx.cell k hlt
      cases hin : inB (nth xs k) lo hi
      · have hf := Lib.hid (allB_false hlt hin)
        go_wp2_with (go_at_call 79; refine (l1In_any _ _ _ _).mono ?_; rintro e w' ⟨rfl, rfl⟩)
        go_ret
        exact ⟨ret_bool hf.out.symm, rfl⟩
      · go_wp2_with (go_at_call 79; refine (l1In_any _ _ _ _).mono ?_; rintro e w' ⟨rfl, rfl⟩)
        go_round
        case rel => exact ⟨k + 1, by omega, by go_num, by rw [allB_take _ _ _ _ hlt, hall, hin]; rfl⟩
        case measure => simp [intOf]; omega
    · go_wp2_with fail
      go_ret
      exact ⟨ret_bool (by rw [← hall, List.take_of_length_le (by omega)]), rfl⟩
theorem l1All_is {a : Option Addr} {xs : List Int} {cap : Nat} {lo hi : Int} {b : Bool} {w : World} (hx : Rd w a xs) (h : allB xs lo hi = b) (m : Nat) :
    Calls Try.prog 89 #[.slice a xs.length cap, .int .i64 lo, .int .i64 hi] (w.drewN m) fun e w' => e = .returned (.bool b) ∧ ∃ k, w' = w.drewN k :=
  Calls.quiet_of_same ((l1All_any a xs cap lo hi (w.drewN m) (hx.below (Joins.below_draws _ _ _))).mono (fun e w' hh => ⟨by rw [← h]; exact hh.1, hh.2.symm⟩))

theorem orRelation_any (n : Int) (a : Option Addr) (xs : List Int) (cap : Nat) (w : World) (hx : Rd w a xs) :
    Calls Try.prog 73 #[.agg #[.int .i64 n, .slice a xs.length cap]] w fun e w' => e = .returned (.bool (relB n xs)) ∧ Below w.heap.size w w' := by
  have hx1 := hx.alloc (.cells #[.int .i64 n, .slice a xs.length cap] 26)
  cases h1 : inB n 0 10
  · have HR : Hid (relB n xs = false) := by simp [Hid, relB, h1]
    go_enter Try.func73, Try.ntmps73
    go_wp2_with fail
    go_quiet ((go_at_call 79; exact l1In_is h1 _ _))
    go_wp2_with fail
    go_ret
    exact ⟨ret_bool HR.out.symm, (Below.refl _ _).alloc (Nat.le_refl _) _ |>.trans (Joins.below_draws _ _ _)⟩
  · have hn := inB_iff.1 h1
    cases h2 : ((xs.length : Int) == n)
    · have HR : Hid (relB n xs = false) := by
        have : ¬ (xs.length : Int) = n := by simpa using h2
        simp [Hid, relB, h1, this]
      go_enter Try.func73, Try.ntmps73
      go_wp2_with fail
      go_quiet ((go_at_call 79; exact l1In_is h1 _ _))
      go_wp2_with fail
      go_ret
      exact ⟨ret_bool HR.out.symm, (Below.refl _ _).alloc (Nat.le_refl _) _ |>.trans (Joins.below_draws _ _ _)⟩
    · cases h3 : allB xs 0 (wrap64 (wrap64 (2 ^ n.toNat) - 1))
      all_goals
        have HR : Hid (relB n xs = allB xs 0 (wrap64 (wrap64 (2 ^ n.toNat) - 1))) := by
          have : (xs.length : Int) = n := by simpa using h2
          simp only [Hid, relB, h1, this, full_eq hn.1 hn.2]
          simp
        have H3 := Lib.hid h3
        clear h3
        go_enter Try.func73, Try.ntmps73
        go_wp2_with fail
        go_quiet ((first | (go_at_call 79; exact l1In_is h1 _ _) | (go_at_call 89; exact l1All_is hx1 H3.out _)))
        go_wp2_with fail
        go_ret
        exact ⟨ret_bool (by rw [HR.out, H3.out]), (Below.refl _ _).alloc (Nat.le_refl _) _ |>.trans (Joins.below_draws _ _ _)⟩

theorem elem_at {n : Int} {xs : List Int} (hp : RelP n xs) {k : Nat} (hk : k < xs.length) {m : Nat} (hm : m < (elems (nth xs k).toNat).length) :
    ∃ i : Nat, i < xs.length ∧ hasB (nth xs k) i = true ∧ nth (elems (nth xs k).toNat) m = (i : Int) := by
  have h1 := hp.small k hk
  have h0 := hp.pos k hk
  obtain ⟨i, hb, e⟩ := (mem_elems (by omega)).1 (nth_mem hm)
  exact ⟨i, has_lt hp hk hb, hb, e⟩
theorem at_elem {n : Int} {xs : List Int} (hp : RelP n xs) {k : Nat} (hk : k < xs.length) {j : Nat} (h : hasB (nth xs k) j = true) :
    ∃ m, m < (elems (nth xs k).toNat).length ∧ nth (elems (nth xs k).toNat) m = (j : Int) := by
  have h1 := hp.small k hk
  have h0 := hp.pos k hk
  have : (j : Int) ∈ elems (nth xs k).toNat := (mem_elems (by omega)).2 ⟨j, h, rfl⟩
  obtain ⟨m, hm, e⟩ := mem_nth this
  exact ⟨m, hm, e⟩
theorem orGood_any (n : Int) (a : Option Addr) (xs : List Int) (cap : Nat) (w : World) (hx : Rd w a xs) :
    Calls Try.prog 47 #[.agg #[.int .i64 n, .slice a xs.length cap]] w fun e w' => e = .returned (.bool (ordB n xs)) ∧ Below w.heap.size w w' := by
  have hx1 := hx.alloc (.cells #[.int .i64 n, .slice a xs.length cap] 26)
  have hlen := hx.len
  cases hr : relB n xs
  · have HR : Hid (ordB n xs = false) := by simp [Hid, ordB, hr]
    go_enter Try.func47, Try.ntmps47
    go_wp2_with fail
    refine (orRelation_any _ _ _ _ _ hx1).mono ?_
    rintro e w1 ⟨rfl, hb1⟩
    go_wp2_with fail
    go_ret
    exact ⟨ret_bool HR.out.symm, Below.trans (by repeat (first | exact Below.refl _ _ | assumption | refine Below.alloc ?_ (by first | exact Nat.le_refl _ | (simp only [World.size_alloc, World.size_setCell, World.size_drew]; omega) | omega) _ | refine Below.setCell ?_ (by first | exact Nat.le_refl _ | (simp only [World.size_alloc, World.size_setCell, World.size_drew]; omega) | omega) _ | refine Below.drew ?_)) (hb1.mono (by first | (simp only [World.size_alloc, World.size_setCell, World.size_drew]; omega) | omega))⟩
  · have hp := relB_p hr
    go_enter Try.func47, Try.ntmps47
    go_wp2_with fail
    refine (orRelation_any _ _ _ _ _ hx1).mono ?_
    rintro e w1 ⟨rfl, hb1⟩
    have B1 := (Box2.new w _ _ _).below hb1
    have ⟨z1, c1, d1⟩ := B1
    have bw1 : Below w.heap.size w w1 := Below.trans (by repeat (first | exact Below.refl _ _ | assumption | refine Below.alloc ?_ (by first | exact Nat.le_refl _ | (simp only [World.size_alloc, World.size_setCell, World.size_drew]; omega) | omega) _ | refine Below.setCell ?_ (by first | exact Nat.le_refl _ | (simp only [World.size_alloc, World.size_setCell, World.size_drew]; omega) | omega) _ | refine Below.drew ?_)) (hb1.mono (by first | (simp only [World.size_alloc, World.size_setCell, World.size_drew]; omega) | omega))
    have HR := Lib.hid hr
    clear hb1
    go_wp2_with fail
    clear hr
    go_loopw [13] (fun i wr => ∃ k : Nat, k ≤ xs.length ∧ i = .int .i64 k ∧ (∀ j, j < k → okAtB xs j = true) ∧ Below w1.heap.size w1 wr) (fun i _ => xs.length - (intOf i).toNat)
    case atStart => exact ⟨0, Nat.zero_le _, rfl, fun j hj => by omega, Below.refl _ _⟩
    case round =>
      obtain ⟨k, hk, rfl, hall, hb⟩ := hrel
      have Br := B1.below hb
      have ⟨zr, cr, dr⟩ := Br
      have bwr := bw1.trans (hb.mono bw1.size)
      have HA := Lib.hid hall
      clear hall c1 d1
      by_cases hlt : k < xs.length
      · obtain ⟨b, off, rfl, hbl, hc⟩ := (hx.below bwr).cell k hlt
        have hpk := hp.pos k hlt
        have hsk := hp.small k hlt
        have hsk' : nth xs k ≤ 9223372036854775807 := by omega
        cases hin : hasB (nth xs k) k
        · go_wp2_with fail
          refine (orHas_any _ _ _ hpk hsk' (by omega)).mono ?_
          rintro e w' ⟨rfl, rfl⟩
          go_wp2_with fail
          refine (orList_any _ _ hpk hsk).mono ?_
          rintro e w2 ⟨a2, cap2, rfl, ho2, hb2⟩
          have ⟨z2, c2, d2⟩ := Br.below hb2
          have bw2 := bwr.trans (hb2.mono bwr.size)
          have hx2 := hx.below bw2
          have hr2 := ho2.rd
          have bk2 := hb.trans (hb2.mono hb.size)
          have hel := elems_len (nth xs k).toNat
          have HI := Lib.hid hin
          clear hin cr dr hc
          obtain ⟨es, hes⟩ : ∃ es, es = elems (nth xs k).toNat := ⟨_, rfl⟩
          rw [← hes] at ho2 hr2 hel
          have HES := Lib.hid hes
          rw [← hes]
          clear hes ho2 hb2
          go_wp2_with fail
          go_loop [24] (fun i => ∃ j : Nat, j ≤ es.length ∧ i = .int .i64 j ∧ (∀ m, m < j → sub (nth xs (nth es m).toNat).toNat (nth xs k).toNat = 0)) (fun i => es.length - (intOf i).toNat)
          case atStart => exact ⟨0, Nat.zero_le _, rfl, fun m hm => by omega⟩
          case round =>
            obtain ⟨j, hj, rfl, hin2⟩ := hrel
            have HIN := Lib.hid hin2
            clear hin2
            by_cases hjl : j < es.length
            · obtain ⟨b2, off2, rfl, hbl2, hc2⟩ := hr2.cell j hjl
              obtain ⟨i, hil, hib, hie⟩ : ∃ i : Nat, i < xs.length ∧ hasB (nth xs k) i = true ∧ nth es j = (i : Int) := by
                have := elem_at hp hlt (m := j) (by rw [← HES.out]; exact hjl)
                rw [← HES.out] at this
                exact this
              obtain ⟨b3, off3, e3, hbl3, hc3⟩ := hx2.cell i hil
              simp only [Option.some.injEq, Addr.mk.injEq, and_true] at e3
              obtain ⟨rfl, rfl⟩ := e3
              have hpi := hp.pos i hil
              have hsi := hp.small i hil
              have hsub := sub_i (a := nth xs i) (b := nth xs k) hpi (by omega) hpk (by omega)
              have HB := Lib.hid hib
              have HE := Lib.hid hie
              rw [hie] at hc2
              clear hib hie
              by_cases hz : sub (nth xs i).toNat (nth xs k).toNat = 0
              · have hne : (bits BinOp.andNot IntKind.i64 (nth xs i) (nth xs k) != 0) = false := by rw [hsub, hz]; rfl
                have HZ := Lib.hid hz
                clear hz hsub
                go_wp2_with fail
                go_round
                case rel =>
                  refine ⟨j + 1, by omega, by go_num, fun m hm => ?_⟩
                  by_cases e : m = j
                  · rw [e, HE.out, Int.toNat_natCast]; exact HZ.out
                  · exact HIN.out m (by omega)
                case measure => simp [intOf]; omega
              · have hne : (bits BinOp.andNot IntKind.i64 (nth xs i) (nth xs k) != 0) = true := by rw [hsub]; simp; omega
                have HN := Lib.hid (ordB_no (n := n) hlt (okAtB_sub hil HB.out hz))
                clear hz hsub
                go_wp2_with fail
                go_ret
                exact ⟨ret_bool HN.out.symm, bw2⟩
            · obtain rfl : j = es.length := by omega
              have hok : okAtB xs k = true := by
                rw [okAtB_iff]
                refine ⟨HI.out, fun j hj hbj => ?_⟩
                obtain ⟨m, hm, e⟩ := at_elem hp hlt hbj
                rw [← HES.out] at hm e
                have := HIN.out m hm
                rwa [e, Int.toNat_natCast] at this
              have HK := Lib.hid hok
              clear hok
              go_wp2_with fail
              go_roundw
              case rel =>
                refine ⟨k + 1, by omega, by go_num, fun j hj => ?_, bk2⟩
                by_cases e : j = k
                · rw [e]; exact HK.out
                · exact HA.out j (by omega)
              case measure => simp [intOf]; omega
        · have HN := Lib.hid (ordB_no (n := n) hlt (okAtB_has hin))
          go_wp2_with fail
          refine (orHas_any _ _ _ hpk hsk' (by omega)).mono ?_
          rintro e w' ⟨rfl, rfl⟩
          go_wp2_with fail
          go_ret
          exact ⟨ret_bool HN.out.symm, bwr⟩
      · obtain rfl : k = xs.length := by omega
        go_wp2_with fail
        go_ret
        exact ⟨ret_bool (ordB_iff.2 ⟨HR.out, HA.out⟩).symm, bwr⟩

theorem sChain_any (n : Int) (a : Option Addr) (xs : List Int) (cap : Nat) (w : World) (hn : -9223372036854775808 ≤ n ∧ n ≤ 9223372036854775807) (hx : Rd w a xs) :
    Calls Try.prog 22 #[.agg #[.int .i64 n, .slice a xs.length cap]] w fun e w' => ∃ a' cap', e = .returned (.tuple #[.slice a' (chnL n xs).length cap', .bool (ordB n xs)]) ∧ OwnI w' w.heap.size (.slice a' (chnL n xs).length cap') (chnL n xs) ∧ Below w.heap.size w w' := by
  have hx1 := hx.alloc (.cells #[.int .i64 n, .slice a xs.length cap] 26)
  cases hr : ordB n xs
  · have H2 : Hid (chnL n xs = []) := by simp [Hid, chnL, hr]
    go_enter Try.func22, Try.ntmps22
    go_wp2_with fail
    refine (orGood_any _ _ _ _ _ hx1).mono ?_
    rw [hr]
    rintro e w1 ⟨rfl, hb1⟩
    have bw1 : Below w.heap.size w w1 := Below.trans (by repeat (first | exact Below.refl _ _ | assumption | refine Below.alloc ?_ (by first | exact Nat.le_refl _ | (simp only [World.size_alloc, World.size_setCell, World.size_drew]; omega) | omega) _ | refine Below.setCell ?_ (by first | exact Nat.le_refl _ | (simp only [World.size_alloc, World.size_setCell, World.size_drew]; omega) | omega) _ | refine Below.drew ?_)) (hb1.mono (by first | (simp only [World.size_alloc, World.size_setCell, World.size_drew]; omega) | omega))
    go_wp2_with fail
    refine bodyPost_ret (v := .tuple #[.slice none 0 0, .bool false]) (by simp [results, Try.results22, go_sem]) rfl ?_
    exact ⟨none, 0, by rw [H2.out]; rfl, by rw [H2.out]; exact OwnI.nil _ _, bw1⟩
  · have hp := ord_rel hr
    have hl10 : xs.length ≤ 10 := by have := hp.len; have := hp.n1; omega
    have H2 : Hid (chnL n xs = lng xs (2 ^ xs.length - 1)) := by simp [Hid, chnL, hr]
    have HR := Lib.hid hr
    have hp0 := hp.n0
    have hp1 := hp.n1
    have hfe : IntKind.i64.wrap (IntKind.i64.wrap (2 ^ n.toNat) - 1) = ((2 ^ xs.length - 1 : Nat) : Int) := by
      rw [i64_wrap, i64_wrap, full_eq hp0 hp1, show n.toNat = xs.length from by have := hp.len; omega, full_nat hl10]
    have HFE := Lib.hid hfe
    have HLT := Lib.hid (show 2 ^ xs.length - 1 < 2 ^ xs.length by have := Nat.two_pow_pos xs.length; omega)
    clear hr hfe
    go_enter Try.func22, Try.ntmps22
    go_wp2_with fail
    refine (orGood_any _ _ _ _ _ hx1).mono ?_
    rw [HR.out]
    rintro e w1 ⟨rfl, hb1⟩
    have A1 : Box2 w1 w.heap.size (.int .i64 n) (.slice a xs.length cap) := (Box2.new w _ _ _).below hb1
    have bw1 : Below w.heap.size w w1 := Below.trans (by repeat (first | exact Below.refl _ _ | assumption | refine Below.alloc ?_ (by first | exact Nat.le_refl _ | (simp only [World.size_alloc, World.size_setCell, World.size_drew]; omega) | omega) _ | refine Below.setCell ?_ (by first | exact Nat.le_refl _ | (simp only [World.size_alloc, World.size_setCell, World.size_drew]; omega) | omega) _ | refine Below.drew ?_)) (hb1.mono (by first | (simp only [World.size_alloc, World.size_setCell, World.size_drew]; omega) | omega))
    have ⟨zA, cA, dA⟩ := A1
    clear hb1
    go_wp2_with fail
    go_region_held3 (fun w' => w'.cell? ⟨w.heap.size, 0, none⟩ = some (.int .i64 n) ∧ w'.cell? ⟨w.heap.size, 1, none⟩ = some (.slice a xs.length cap))
      (first | exact ⟨A3.2.1, A3.2.2⟩ | go_keep)
      (first | (go_at_call 52; rw [HFE.out]; refine (orLonger_any _ _ _ HR.out _ _ _ HLT.out (hx.below (bw1.trans (Joins.below_draws _ _ _)))).mono ?_; rintro e w3 ⟨a3, c3, rfl, ho3, hb3⟩; have ht3 : Below w1.heap.size w1 w3 := (Joins.below_draws _ _ _).trans hb3; have A3 := A1.below ht3; have o3 : OwnI w3 w1.heap.size (.slice a3 (lng xs (2 ^ xs.length - 1)).length c3) (lng xs (2 ^ xs.length - 1)) := ho3))
    go_wp2_with fail
    refine bodyPost_ret (v := .tuple #[.slice a3 (lng xs (2 ^ xs.length - 1)).length c3, .bool true]) (by simp [results, Try.results22, go_sem]) rfl ?_
    exact ⟨a3, c3, by rw [H2.out], by rw [H2.out]; exact o3.mono bw1.size, bw1.trans (ht3.mono bw1.size)⟩

theorem hasElement_any (s i : Int) (w : World) (h0 : 0 ≤ s) (h1 : s ≤ 9223372036854775807) (hi : 0 ≤ i) :
    Calls Try.prog 65 #[.int .i64 s, .int .i64 i] w fun e w' => e = .returned (.bool (hasB s i)) ∧ w = w' := by
  have H := Lib.hid (has_and h0 h1 hi)
  go_enter Try.func65, Try.ntmps65
  go_wp2
  go_ret
  exact ⟨ret_bool H.out, rfl⟩

set_option maxRecDepth 100000 in
theorem longestList_any (fl : List Int) (hf : Flw fl) (cap : Nat) : ∀ (S : Nat) (a : Option Addr) (w : World), S < 1024 → Rd w a fl →
    Calls Try.prog 53 #[.int .i64 S, .slice a fl.length cap] w fun e w' => ∃ a' cap', e = .returned (.slice a' (lng fl S).length cap') ∧ OwnI w' w.heap.size (.slice a' (lng fl S).length cap') (lng fl S) ∧ Below w.heap.size w w' := by
  intro S
  induction S using Nat.strongRecOn with
  | _ S ih =>
    intro a w hS hx
    obtain ⟨i0, hi, hz0, hz1, hz2⟩ := info_parts infoInt
    have HIH := Lib.hid ih
    have HL := Lib.hid (lng_eq hf S)
    obtain ⟨rest, hrest⟩ : ∃ rest : Nat → List Int, rest = fun i => lng fl (S &&& (nth fl i).toNat) := ⟨_, rfl⟩
    have HR := Lib.hid hrest
    have hrl : ∀ i, (rest i).length ≤ 1024 := fun i => by
      rw [hrest]
      have := lng_len fl (S &&& (nth fl i).toNat)
      have h2 : S &&& (nth fl i).toNat ≤ S := Nat.and_le_left
      simp only; omega
    have hbl : ∀ k, (bestTo rest S k).length ≤ 1025 := fun k => bestTo_len k (fun i _ => hrl i)
    have HRL := Lib.hid hrl
    have HBL := Lib.hid hbl
    have hfl := hf.len
    have S0 : (0 : Int) ≤ (S : Int) := by omega
    have S1 : (S : Int) ≤ 9223372036854775807 := by omega
    clear ih hrest hrl hbl
    go_enter Try.func53, Try.ntmps53
    go_wp2_with fail
    go_loopw [5, 10] (fun v i wr => ∃ (k : Nat) (av : Option Addr) (cv : Nat), k ≤ fl.length ∧ i = .int .i64 k ∧ v = .slice av (bestTo rest S k).length cv ∧ OwnI wr w.heap.size (.slice av (bestTo rest S k).length cv) (bestTo rest S k) ∧ Below w.heap.size w wr) (fun _ i _ => fl.length - (intOf i).toNat)
    case atStart => exact ⟨0, none, 0, Nat.zero_le _, rfl, rfl, OwnI.nil _ _, Below.refl _ _⟩
    case round =>
      obtain ⟨k, av, cv, hk, rfl, rfl, hown, hb⟩ := hrel
      have hbk := HBL.out k
      by_cases hlt : k < fl.length
      · have k0 : (0 : Int) ≤ (k : Int) := by omega
        have k1 : (k : Int) < (fl.length : Int) := by omega
        cases hh : hasB (S : Int) (k : Int)
        · have HB : Hid (bestTo rest S (k+1) = bestTo rest S k) := by
            have : S.testBit k = false := hh
            simp [Hid, bestTo, this]
          go_wp2_with (go_at_call 65; refine (hasElement_any _ _ _ (by assumption) (by assumption) (by assumption)).mono ?_; rintro e w' ⟨rfl, rfl⟩)
          go_roundw
          case rel => exact ⟨k + 1, av, cv, by omega, by go_num, by rw [HB.out], by rw [HB.out]; exact hown, hb⟩
          case measure => simp [intOf]; omega
        · have hbit : S.testBit k = true := hh
          obtain ⟨b, off, rfl, hbl, hck⟩ := (hx.below hb).cell k hlt
          have ⟨f0, f1, f2⟩ := hf.ok k hlt
          have hand := and_i (a := (S : Int)) (b := nth fl k) (by omega) (by omega) f0 (by omega)
          rw [Int.toNat_natCast] at hand
          have hless := and_less hbit f2
          have hcall := HIH.out (S &&& (nth fl k).toNat) hless (some ⟨b, off, none⟩) wr (by omega) (hx.below hb)
          have hrk : lng fl (S &&& (nth fl k).toNat) = rest k := by rw [HR.out]
          rw [hrk] at hcall
          have HC := Lib.hid hcall
          have HA := Lib.hid hand
          have hbest : bestTo rest S (k+1) = if (bestTo rest S k).length ≤ (rest k).length then (k : Int) :: rest k else bestTo rest S k := by
            rw [bestTo, if_pos hbit]
          have HBT := Lib.hid hbest
          have hrk2 := HRL.out k
          clear hcall hand hless hrk hbest hbit
          go_wp2_with (go_at_call 65; refine (hasElement_any _ _ _ (by assumption) (by assumption) (by assumption)).mono ?_; rintro e w' ⟨rfl, rfl⟩)
          rw [HA.out]
          refine HC.out.mono ?_
          rintro e w2 ⟨a2, c2, rfl, ho2, hb2⟩
          have b2 := hb.trans (hb2.mono hb.size)
          have o2 := hown.below hb2 (Nat.le_refl _)
          clear hb2 hown HC
          by_cases hle : (bestTo rest S k).length ≤ (rest k).length
          · have hd : ((bestTo rest S k).length : Int) ≤ ((rest k).length : Int) := by omega
            have HB := Lib.hid (show bestTo rest S (k+1) = (k : Int) :: rest k by rw [HBT.out, if_pos hle])
            have hsz := b2.size
            have hlit := lit_own w2 (k : Int) w.heap.size hsz
            have HLIT := Lib.hid hlit
            clear hlit hle
            obtain ⟨R, hR⟩ : ∃ R, R = rest k := ⟨_, rfl⟩
            rw [← hR] at ho2 hd hrk2
            rw [← hR]
            have HRR := Lib.hid hR
            clear hR
            cases a2 with
            | none =>
              have hR0 : R = [] := by
                rcases ho2.2 with ⟨_, h0⟩ | ⟨g, c, cur, e, _⟩
                · exact List.length_eq_zero_iff.1 h0
                · cases e
              subst hR0
              have HO3 : Hid (OwnI (w2.alloc (.cells #[.int .i64 (k : Int)] 3)) w.heap.size (.slice (some ⟨w2.heap.size, 0, none⟩) 1 1) [(k : Int)]) := HLIT.out
              have hbe : bestTo rest S k = [] := List.length_eq_zero_iff.1 (by simp at hd; simpa using hd)
              rw [hbe]
              clear ho2 o2 hd hbe hbk
              go_wp2_with (at_builtin; refine wpList_append_none rfl _ _ 22 rfl w.heap.size 3 i0 1 Try.underlying22 hi (.slice (some ⟨w2.heap.size, 0, none⟩) 1 1) 1 c2 [.int .i64 (k : Int)] rfl HLIT.out rfl ?_)
              go_roundw
              case rel => exact ⟨k + 1, some ⟨w2.heap.size, 0, none⟩, 1, by omega, by go_num, by rw [HB.out, ← HRR.out]; rfl, by rw [HB.out, ← HRR.out]; exact HO3.out, b2.alloc hsz _⟩
              case measure => simp [intOf]; omega
            | some ad =>
              have hrd := ho2.rd
              go_wp2_with (at_builtin; refine wpList_append_own _ rfl _ _ 22 rfl w.heap.size 3 i0 (.int .i64 0) 1 8 Try.underlying22 hi hz0 hz1 hz2 rfl (by decide) (.slice (some ⟨w2.heap.size, 0, none⟩) 1 1) 1 [.int .i64 (k : Int)] rfl HLIT.out ad R.length c2 (R.map (Value.int .i64)) rfl (by rw [List.length_map, Nat.mul_one]) (rd_news (hrd.alloc _)) (ints_one _) (by unfold maxLen; omega) (by omega) (by simp; omega) ?_)
              intro v' w3 ho3 hg3 _
              have hb3 : Below w.heap.size w w3 := (b2.alloc hsz _).grown hg3 (by simp; omega) (fun b e => by simp [Value.ownBlock] at e; omega)
              have o3 : OwnI w3 w.heap.size v' ((k : Int) :: R) := by
                unfold OwnI
                rw [List.length_cons, List.map_cons, Nat.add_comm]
                exact ho3
              obtain ⟨a3, c3, rfl⟩ := o3.form
              have HO3 := Lib.hid o3
              clear ho3 hg3 o3 o2 ho2
              go_wp2_with fail
              go_roundw
              case rel => exact ⟨k + 1, a3, c3, by omega, by go_num, by rw [HB.out, HRR.out], by rw [HB.out, ← HRR.out]; exact HO3.out, hb3⟩
              case measure => simp [intOf]; omega
          · have hd : ¬ ((bestTo rest S k).length : Int) ≤ ((rest k).length : Int) := by omega
            have HB := Lib.hid (show bestTo rest S (k+1) = bestTo rest S k by rw [HBT.out, if_neg hle])
            clear hle ho2
            go_wp2_with fail
            go_roundw
            case rel => exact ⟨k + 1, av, cv, by omega, by go_num, by rw [HB.out], by rw [HB.out]; exact o2, b2⟩
            case measure => simp [intOf]; omega
      · obtain rfl : k = fl.length := by omega
        have HE : Hid (lng fl S = bestTo rest S fl.length) := by rw [Hid, HL.out, HR.out]
        go_wp2_with fail
        refine bodyPost_ret (v := .slice av (bestTo rest S fl.length).length cv) (by simp [results, Try.results53, go_sem]) rfl ?_
        exact ⟨av, cv, by rw [HE.out], by rw [HE.out]; exact hown, hb⟩

/-- the set of all elements above one of those of a set that are less than k -/
def aboveTo (xs : List Int) (s : Int) : Nat → Nat
  | 0 => 0
  | k+1 => if hasB s k then aboveTo xs s k ||| (nth xs k).toNat else aboveTo xs s k
theorem aboveTo_lt {n : Int} {xs : List Int} (hp : RelP n xs) (s : Int) : ∀ k, k ≤ xs.length → aboveTo xs s k < 2 ^ 10
  | 0, _ => by simp [aboveTo]
  | k+1, hk => by
    have h := aboveTo_lt hp s k (by omega)
    have h1 := hp.small k (by omega)
    have h0 := hp.pos k (by omega)
    simp only [aboveTo]
    split
    · exact or_lt h (by omega)
    · exact h
theorem aboveTo_bit (xs : List Int) (s : Int) (j : Nat) : ∀ k, (aboveTo xs s k).testBit j = true ↔ ∃ i, i < k ∧ hasB s i = true ∧ (nth xs i).toNat.testBit j = true
  | 0 => by simp [aboveTo]
  | k+1 => by
    have ih := aboveTo_bit xs s j k
    simp only [aboveTo]
    cases hb : hasB s k
    · rw [if_neg (by simp), ih]
      constructor
      · rintro ⟨i, h1, h2, h3⟩
        exact ⟨i, by omega, h2, h3⟩
      · rintro ⟨i, h1, h2, h3⟩
        have : i ≠ k := fun e => by rw [e, hb] at h2; cases h2
        exact ⟨i, by omega, h2, h3⟩
    · rw [if_pos rfl, Nat.testBit_or, Bool.or_eq_true, ih]
      constructor
      · rintro (⟨i, h1, h2, h3⟩ | h)
        · exact ⟨i, by omega, h2, h3⟩
        · exact ⟨k, by omega, hb, h⟩
      · rintro ⟨i, h1, h2, h3⟩
        by_cases e : i = k
        · subst e; exact .inr h3
        · exact .inl ⟨i, by omega, h2, h3⟩
theorem okAtB_above {xs : List Int} {k : Nat} (h : hasB (nth xs k) k = false) : okAtB xs k = (sub (aboveTo xs (nth xs k) xs.length) (nth xs k).toNat == 0) := by
  rw [Bool.eq_iff_iff, okAtB_iff, beq_iff_eq, sub_zero]
  constructor
  · rintro ⟨_, h2⟩ i hi
    obtain ⟨j, hj, hb, ht⟩ := (aboveTo_bit _ _ _ _).1 hi
    exact sub_zero.1 (h2 j hj hb) i ht
  · intro h2
    refine ⟨h, fun j hj hb => sub_zero.2 (fun i hi => h2 i ((aboveTo_bit _ _ _ _).2 ⟨j, hj, hb, hi⟩))⟩

theorem aboveAny_any (n : Int) (a : Option Addr) (xs : List Int) (cap : Nat) (s : Int) (w : World) (hx : Rd w a xs) (hr : RelP n xs) (h0 : 0 ≤ s) (h1 : s ≤ 9223372036854775807) :
    Calls Try.prog 77 #[.agg #[.int .i64 n, .slice a xs.length cap], .int .i64 s] w fun e w' => e = .returned (.int .i64 (aboveTo xs s xs.length)) ∧ Below w.heap.size w w' := by
  have hx1 := hx.alloc (.cells #[.int .i64 n, .slice a xs.length cap] 26)
  obtain rfl : n = (xs.length : Int) := hr.len.symm
  have hn : xs.length ≤ 10 := by have := hr.n1; omega
  go_enter Try.func77, Try.ntmps77
  go_wp2_with fail
  go_loop [5, 9] (fun s' i' => ∃ k : Nat, k ≤ xs.length ∧ i' = .int .i64 k ∧ s' = .int .i64 (aboveTo xs s k)) (fun _ i => xs.length - (intOf i).toNat)
  case atStart => exact ⟨0, Nat.zero_le _, rfl, rfl⟩
  case round =>
    obtain ⟨k, hk, rfl, rfl⟩ := hrel
    by_cases hlt : k < xs.length
    · obtain ⟨b, off, rfl, hbl, hc⟩ := hx1.cell k hlt
      obtain ⟨b', off', e', hbl', hc'⟩ := hx.cell k hlt
      simp only [Option.some.injEq, Addr.mk.injEq, and_true] at e'
      obtain ⟨rfl, rfl⟩ := e'
      have hpk := hr.pos k hlt
      have hsk := hr.small k hlt
      have hab := aboveTo_lt hr s k hk
      have hor := Lib.hid (or_i (a := (aboveTo xs s k : Nat)) (b := nth xs k) (by omega) (by omega) hpk (by omega))
      clear hab
      cases hin : hasB s k
      · go_wp2_with (go_at_call 65; refine (hasElement_any _ _ _ h0 h1 (by omega)).mono ?_; rintro e w' ⟨rfl, rfl⟩)
        go_round
        case rel => exact ⟨k + 1, by omega, by go_num, by simp [aboveTo, hin]⟩
        case measure => simp [intOf]; omega
      · go_wp2_with (go_at_call 65; refine (hasElement_any _ _ _ h0 h1 (by omega)).mono ?_; rintro e w' ⟨rfl, rfl⟩)
        go_round
        case rel => exact ⟨k + 1, by omega, by go_num, val_int (by rw [hor.out]; simp [aboveTo, hin])⟩
        case measure => simp [intOf]; omega
    · obtain rfl : k = xs.length := by omega
      go_wp2_with fail
      go_ret
      exact ⟨rfl, (by repeat (first | exact Below.refl _ _ | assumption | refine Below.alloc ?_ (by first | exact Nat.le_refl _ | (simp only [World.size_alloc, World.size_setCell, World.size_drew]; omega) | omega) _ | refine Below.setCell ?_ (by first | exact Nat.le_refl _ | (simp only [World.size_alloc, World.size_setCell, World.size_drew]; omega) | omega) _ | refine Below.drew ?_))⟩

theorem fullSet_any (n : Int) (w : World) (h0 : 0 ≤ n) (h1 : n ≤ 10) :
    Calls Try.prog 50 #[.int .i64 n] w fun e w' => e = .returned (.int .i64 (2 ^ n.toNat - 1)) ∧ w = w' := by
  have hf := Lib.hid (full_eq h0 h1)
  go_enter Try.func50, Try.ntmps50
  go_wp2
  go_ret
  exact ⟨ret_int hf.out, rfl⟩

theorem isSet_any (s n : Int) (w : World) (h0' : 0 ≤ n) (h1' : n ≤ 10) :
    Calls Try.prog 94 #[.int .i64 s, .int .i64 n] w fun e w' => e = .returned (.bool (inB s 0 (2 ^ n.toNat - 1))) ∧ w = w' := by
  by_cases h0 : 0 ≤ s
  · by_cases h1 : s ≤ 2 ^ n.toNat - 1
    · have hf := Lib.hid (inB_iff.2 ⟨h0, h1⟩)
      go_enter Try.func94, Try.ntmps94
      go_wp2_with (go_at_call 50; refine (fullSet_any _ _ h0' h1').mono ?_; rintro e w' ⟨rfl, rfl⟩)
      go_ret
      exact ⟨ret_bool (by rw [hf.out]; try simp [h1]), rfl⟩
    · have hf := Lib.hid (inB_no (lo := 0).2 (.inr (show 2 ^ n.toNat - 1 < s by omega)))
      go_enter Try.func94, Try.ntmps94
      go_wp2_with (go_at_call 50; refine (fullSet_any _ _ h0' h1').mono ?_; rintro e w' ⟨rfl, rfl⟩)
      go_ret
      exact ⟨ret_bool (by rw [hf.out]; try simp [h1]), rfl⟩
  · have hf := Lib.hid (inB_no (hi := 2 ^ n.toNat - 1).2 (.inl (show s < 0 by omega)))
    go_enter Try.func94, Try.ntmps94
    go_wp2_with fail
    go_ret
    exact ⟨ret_bool (by rw [hf.out]; try simp [h1]), rfl⟩

theorem areSets_any (a : Option Addr) (xs : List Int) (cap : Nat) (n : Int) (w : World) (hx : Rd w a xs) (h0' : 0 ≤ n) (h1' : n ≤ 10) :
    Calls Try.prog 90 #[.slice a xs.length cap, .int .i64 n] w fun e w' => e = .returned (.bool (allB xs 0 (2 ^ n.toNat - 1))) ∧ w = w' := by
  have hlen := hx.len
  go_enter Try.func90, Try.ntmps90
  go_wp2_with fail
  go_loop [9] (fun i => ∃ k : Nat, k ≤ xs.length ∧ i = .int .i64 k ∧ allB (xs.take k) 0 (2 ^ n.toNat - 1) = true) (fun i => xs.length - (intOf i).toNat)
  case atStart => exact ⟨0, Nat.zero_le _, rfl, rfl⟩
  case round =>
    obtain ⟨k, hk, rfl, hall⟩ := hrel
    by_cases hlt : k < xs.length
    · obtain ⟨b, off, rfl, hbl, hc⟩ := hx.cell k hlt
      cases hin : inB (nth xs k) 0 (2 ^ n.toNat - 1)
      · have hf := Lib.hid (allB_false hlt hin)
        go_wp2_with (go_at_call 94; refine (isSet_any _ _ _ h0' h1').mono ?_; rintro e w' ⟨rfl, rfl⟩)
        go_ret
        exact ⟨ret_bool hf.out.symm, rfl⟩
      · go_wp2_with (go_at_call 94; refine (isSet_any _ _ _ h0' h1').mono ?_; rintro e w' ⟨rfl, rfl⟩)
        go_round
        case rel => exact ⟨k + 1, by omega, by go_num, by rw [allB_take _ _ _ _ hlt, hall, hin]; rfl⟩
        case measure => simp [intOf]; omega
    · go_wp2_with fail
      go_ret
      exact ⟨ret_bool (by rw [← hall, List.take_of_length_le (by omega)]), rfl⟩

theorem iIsRelation_any (n : Int) (a : Option Addr) (xs : List Int) (cap : Nat) (w : World) (_hn : -9223372036854775808 ≤ n ∧ n ≤ 9223372036854775807) (hx : Rd w a xs) :
    Calls Try.prog 76 #[.agg #[.int .i64 n, .slice a xs.length cap]] w fun e w' => e = .returned (.bool (relB n xs)) ∧ Below w.heap.size w w' := by
  have hx1 := hx.alloc (.cells #[.int .i64 n, .slice a xs.length cap] 26)
  have hlen := hx.len
  by_cases h0 : 0 ≤ n
  · by_cases h1 : n ≤ 10
    · cases h2 : ((xs.length : Int) == n)
      · have HR : Hid (relB n xs = false) := by
          have : ¬ (xs.length : Int) = n := by simpa using h2
          simp [Hid, relB, this]
        go_enter Try.func76, Try.ntmps76
        go_wp2_with fail
        go_ret
        exact ⟨ret_bool HR.out.symm, (by repeat (first | exact Below.refl _ _ | assumption | refine Below.alloc ?_ (by first | exact Nat.le_refl _ | (simp only [World.size_alloc, World.size_setCell, World.size_drew]; omega) | omega) _ | refine Below.setCell ?_ (by first | exact Nat.le_refl _ | (simp only [World.size_alloc, World.size_setCell, World.size_drew]; omega) | omega) _ | refine Below.drew ?_))⟩
      · have HR : Hid (relB n xs = allB xs 0 (2 ^ n.toNat - 1)) := by
          have : (xs.length : Int) = n := by simpa using h2
          simp [Hid, relB, inB, h0, h1, this]
        go_enter Try.func76, Try.ntmps76
        go_wp2_with fail
        refine (areSets_any _ _ _ _ _ hx1 h0 h1).mono ?_
        rintro e w' ⟨rfl, rfl⟩
        go_wp2_with fail
        go_ret
        exact ⟨ret_bool HR.out.symm, (by repeat (first | exact Below.refl _ _ | assumption | refine Below.alloc ?_ (by first | exact Nat.le_refl _ | (simp only [World.size_alloc, World.size_setCell, World.size_drew]; omega) | omega) _ | refine Below.setCell ?_ (by first | exact Nat.le_refl _ | (simp only [World.size_alloc, World.size_setCell, World.size_drew]; omega) | omega) _ | refine Below.drew ?_))⟩
    · have HR : Hid (relB n xs = false) := by simp [Hid, relB, inB]; omega
      go_enter Try.func76, Try.ntmps76
      go_wp2_with fail
      go_ret
      exact ⟨ret_bool HR.out.symm, (by repeat (first | exact Below.refl _ _ | assumption | refine Below.alloc ?_ (by first | exact Nat.le_refl _ | (simp only [World.size_alloc, World.size_setCell, World.size_drew]; omega) | omega) _ | refine Below.setCell ?_ (by first | exact Nat.le_refl _ | (simp only [World.size_alloc, World.size_setCell, World.size_drew]; omega) | omega) _ | refine Below.drew ?_))⟩
  · have HR : Hid (relB n xs = false) := by simp [Hid, relB, inB]; omega
    go_enter Try.func76, Try.ntmps76
    go_wp2_with fail
    go_ret
    exact ⟨ret_bool HR.out.symm, (by repeat (first | exact Below.refl _ _ | assumption | refine Below.alloc ?_ (by first | exact Nat.le_refl _ | (simp only [World.size_alloc, World.size_setCell, World.size_drew]; omega) | omega) _ | refine Below.setCell ?_ (by first | exact Nat.le_refl _ | (simp only [World.size_alloc, World.size_setCell, World.size_drew]; omega) | omega) _ | refine Below.drew ?_))⟩

theorem iIsOrder_any (n : Int) (a : Option Addr) (xs : List Int) (cap : Nat) (w : World) (hn : -9223372036854775808 ≤ n ∧ n ≤ 9223372036854775807) (hx : Rd w a xs) :
    Calls Try.prog 51 #[.agg #[.int .i64 n, .slice a xs.length cap]] w fun e w' => e = .returned (.bool (ordB n xs)) ∧ Below w.heap.size w w' := by
  have hx1 := hx.alloc (.cells #[.int .i64 n, .slice a xs.length cap] 26)
  have hlen := hx.len
  cases hr : relB n xs
  · have HR : Hid (ordB n xs = false) := by simp [Hid, ordB, hr]
    go_enter Try.func51, Try.ntmps51
    go_wp2_with fail
    refine (iIsRelation_any _ _ _ _ _ hn hx1).mono ?_
    rintro e w1 ⟨rfl, hb1⟩
    go_wp2_with fail
    go_ret
    exact ⟨ret_bool HR.out.symm, Below.trans (by repeat (first | exact Below.refl _ _ | assumption | refine Below.alloc ?_ (by first | exact Nat.le_refl _ | (simp only [World.size_alloc, World.size_setCell, World.size_drew]; omega) | omega) _ | refine Below.setCell ?_ (by first | exact Nat.le_refl _ | (simp only [World.size_alloc, World.size_setCell, World.size_drew]; omega) | omega) _ | refine Below.drew ?_)) (hb1.mono (by first | (simp only [World.size_alloc, World.size_setCell, World.size_drew]; omega) | omega))⟩
  · have hp := relB_p hr
    go_enter Try.func51, Try.ntmps51
    go_wp2_with fail
    refine (iIsRelation_any _ _ _ _ _ hn hx1).mono ?_
    rintro e w1 ⟨rfl, hb1⟩
    have B1 := (Box2.new w _ _ _).below hb1
    have ⟨z1, c1, d1⟩ := B1
    have bw1 : Below w.heap.size w w1 := Below.trans (by repeat (first | exact Below.refl _ _ | assumption | refine Below.alloc ?_ (by first | exact Nat.le_refl _ | (simp only [World.size_alloc, World.size_setCell, World.size_drew]; omega) | omega) _ | refine Below.setCell ?_ (by first | exact Nat.le_refl _ | (simp only [World.size_alloc, World.size_setCell, World.size_drew]; omega) | omega) _ | refine Below.drew ?_)) (hb1.mono (by first | (simp only [World.size_alloc, World.size_setCell, World.size_drew]; omega) | omega))
    have HR := Lib.hid hr
    clear hb1
    go_wp2_with fail
    clear hr
    go_loopw [11] (fun i wr => ∃ k : Nat, k ≤ xs.length ∧ i = .int .i64 k ∧ (∀ j, j < k → okAtB xs j = true) ∧ Below w1.heap.size w1 wr) (fun i _ => xs.length - (intOf i).toNat)
    case atStart => exact ⟨0, Nat.zero_le _, rfl, fun j hj => by omega, Below.refl _ _⟩
    case round =>
      obtain ⟨k, hk, rfl, hall, hb⟩ := hrel
      have ⟨zr, cr, dr⟩ := B1.below hb
      have bwr := bw1.trans (hb.mono bw1.size)
      have HA := Lib.hid hall
      clear hall c1 d1
      by_cases hlt : k < xs.length
      · obtain ⟨b, off, rfl, hbl, hc⟩ := (hx.below bwr).cell k hlt
        have hpk := hp.pos k hlt
        have hsk := hp.small k hlt
        have hsk' : nth xs k ≤ 9223372036854775807 := by omega
        cases hin : hasB (nth xs k) k
        · have hab := aboveTo_lt hp (nth xs k) xs.length (Nat.le_refl _)
          have hsub := sub_i (a := (aboveTo xs (nth xs k) xs.length : Nat)) (b := nth xs k) (by omega) (by omega) hpk (by omega)
          have hok := okAtB_above hin
          rw [Int.toNat_natCast] at hsub
          cases hok2 : okAtB xs k
          · rw [hok2] at hok
            have hne : (bits BinOp.andNot IntKind.i64 ((aboveTo xs (nth xs k) xs.length : Nat) : Int) (nth xs k) != 0) = true := by
              rw [hsub]
              simpa using hok.symm
            have HN := Lib.hid (ordB_no (n := n) hlt hok2)
            clear hok2 hok hsub hab
            go_wp2_with fail
            refine (hasElement_any _ _ _ hpk hsk' (by omega)).mono ?_
            rintro e w' ⟨rfl, rfl⟩
            go_wp2_with fail
            refine (aboveAny_any _ _ _ _ _ _ (hx.below bwr) hp hpk hsk').mono ?_
            rintro e w2 ⟨rfl, hb2⟩
            go_wp2_with fail
            go_ret
            exact ⟨ret_bool HN.out.symm, bwr.trans (hb2.mono bwr.size)⟩
          · rw [hok2] at hok
            have hne : (bits BinOp.andNot IntKind.i64 ((aboveTo xs (nth xs k) xs.length : Nat) : Int) (nth xs k) != 0) = false := by
              rw [hsub]
              simpa using hok.symm
            have HN := Lib.hid hok2
            clear hok2 hok hsub hab
            go_wp2_with fail
            refine (hasElement_any _ _ _ hpk hsk' (by omega)).mono ?_
            rintro e w' ⟨rfl, rfl⟩
            go_wp2_with fail
            refine (aboveAny_any _ _ _ _ _ _ (hx.below bwr) hp hpk hsk').mono ?_
            rintro e w2 ⟨rfl, hb2⟩
            go_wp2_with fail
            go_roundw
            case rel =>
              refine ⟨k + 1, by omega, by go_num, fun j hj => ?_, hb.trans (hb2.mono hb.size)⟩
              by_cases e : j = k
              · rw [e]; exact HN.out
              · exact HA.out j (by omega)
            case measure => simp [intOf]; omega
        · have HN := Lib.hid (ordB_no (n := n) hlt (okAtB_has hin))
          go_wp2_with fail
          refine (hasElement_any _ _ _ hpk hsk' (by omega)).mono ?_
          rintro e w' ⟨rfl, rfl⟩
          go_wp2_with fail
          go_ret
          exact ⟨ret_bool HN.out.symm, bwr⟩
      · obtain rfl : k = xs.length := by omega
        go_wp2_with fail
        go_ret
        exact ⟨ret_bool (ordB_iff.2 ⟨HR.out, HA.out⟩).symm, bwr⟩

theorem iChain_any (n : Int) (a : Option Addr) (xs : List Int) (cap : Nat) (w : World) (hn : -9223372036854775808 ≤ n ∧ n ≤ 9223372036854775807) (hx : Rd w a xs) :
    Calls Try.prog 23 #[.agg #[.int .i64 n, .slice a xs.length cap]] w fun e w' => ∃ a' cap', e = .returned (.tuple #[.slice a' (chnL n xs).length cap', .bool (ordB n xs)]) ∧ OwnI w' w.heap.size (.slice a' (chnL n xs).length cap') (chnL n xs) ∧ Below w.heap.size w w' := by
  have hx1 := hx.alloc (.cells #[.int .i64 n, .slice a xs.length cap] 26)
  cases hr : ordB n xs
  · have H2 : Hid (chnL n xs = []) := by simp [Hid, chnL, hr]
    go_enter Try.func23, Try.ntmps23
    go_wp2_with fail
    refine (iIsOrder_any _ _ _ _ _ hn hx1).mono ?_
    rw [hr]
    rintro e w1 ⟨rfl, hb1⟩
    have bw1 : Below w.heap.size w w1 := Below.trans (by repeat (first | exact Below.refl _ _ | assumption | refine Below.alloc ?_ (by first | exact Nat.le_refl _ | (simp only [World.size_alloc, World.size_setCell, World.size_drew]; omega) | omega) _ | refine Below.setCell ?_ (by first | exact Nat.le_refl _ | (simp only [World.size_alloc, World.size_setCell, World.size_drew]; omega) | omega) _ | refine Below.drew ?_)) (hb1.mono (by first | (simp only [World.size_alloc, World.size_setCell, World.size_drew]; omega) | omega))
    go_wp2_with fail
    refine bodyPost_ret (v := .tuple #[.slice none 0 0, .bool false]) (by simp [results, Try.results23, go_sem]) rfl ?_
    exact ⟨none, 0, by rw [H2.out]; rfl, by rw [H2.out]; exact OwnI.nil _ _, bw1⟩
  · have hp := ord_rel hr
    have hl10 : xs.length ≤ 10 := by have := hp.len; have := hp.n1; omega
    have H2 : Hid (chnL n xs = lng xs (2 ^ xs.length - 1)) := by simp [Hid, chnL, hr]
    have HR := Lib.hid hr
    obtain rfl : n = (xs.length : Int) := hp.len.symm
    have hp0 := hp.n0
    have hp1 := hp.n1
    have HFN := Lib.hid (full_nat' hl10)
    have HLT := Lib.hid (full_lt hl10)
    clear hr
    go_enter Try.func23, Try.ntmps23
    go_wp2_with fail
    refine (iIsOrder_any _ _ _ _ _ hn hx1).mono ?_
    rw [HR.out]
    rintro e w1 ⟨rfl, hb1⟩
    have A1 : Box2 w1 w.heap.size (.int .i64 (xs.length : Int)) (.slice a xs.length cap) := (Box2.new w _ _ _).below hb1
    have bw1 : Below w.heap.size w w1 := Below.trans (by repeat (first | exact Below.refl _ _ | assumption | refine Below.alloc ?_ (by first | exact Nat.le_refl _ | (simp only [World.size_alloc, World.size_setCell, World.size_drew]; omega) | omega) _ | refine Below.setCell ?_ (by first | exact Nat.le_refl _ | (simp only [World.size_alloc, World.size_setCell, World.size_drew]; omega) | omega) _ | refine Below.drew ?_)) (hb1.mono (by first | (simp only [World.size_alloc, World.size_setCell, World.size_drew]; omega) | omega))
    have ⟨zA, cA, dA⟩ := A1
    clear hb1
    go_wp2_with fail
    go_region_held3 (fun w' => w'.cell? ⟨w.heap.size, 0, none⟩ = some (.int .i64 (xs.length : Int)) ∧ w'.cell? ⟨w.heap.size, 1, none⟩ = some (.slice a xs.length cap))
      (first | exact ⟨A3.2.1, A3.2.2⟩ | go_keep)
      (first | (go_at_call 50; refine (fullSet_any _ _ hp0 hp1).mono ?_; rintro e w' ⟨rfl, rfl⟩; rw [Int.toNat_natCast, HFN.out]) | (go_at_call 53; refine (longestList_any xs (ord_flw HR.out) _ _ _ _ HLT.out (hx.below (bw1.trans (Joins.below_draws _ _ _)))).mono ?_; rintro e w3 ⟨a3, c3, rfl, ho3, hb3⟩; have ht3 : Below w1.heap.size w1 w3 := (Joins.below_draws _ _ _).trans hb3; have A3 := A1.below ht3; have o3 : OwnI w3 w1.heap.size (.slice a3 (lng xs (2 ^ xs.length - 1)).length c3) (lng xs (2 ^ xs.length - 1)) := ho3))
    go_wp2_with fail
    refine bodyPost_ret (v := .tuple #[.slice a3 (lng xs (2 ^ xs.length - 1)).length c3, .bool true]) (by simp [results, Try.results23, go_sem]) rfl ?_
    exact ⟨a3, c3, by rw [H2.out], by rw [H2.out]; exact o3.mono bw1.size, bw1.trans (ht3.mono bw1.size)⟩

/-- the marks k, k + 1, .. -/
def marks (k : Int) (n : Nat) : List Int := (List.range n).map (fun (j : Nat) => k + (j : Int))
theorem marks_len (k : Int) (n : Nat) : (marks k n).length = n := by simp [marks]
theorem marks_nth {k : Int} {n j : Nat} (h : j < n) : nth (marks k n) j = k + j := by
  simp [nth, marks, h]
theorem mark_step (k : Int) (xs : List Int) (j : Nat) (h : j < xs.length) :
    ((marks k j ++ xs.drop j).map (Value.int .i64)).set j (.int .i64 (k + j)) = (marks k (j+1) ++ xs.drop (j+1)).map (Value.int .i64) := by
  apply List.ext_getElem?
  intro i
  rw [List.getElem?_set]
  by_cases hj : j = i
  · subst hj
    rw [if_pos rfl, if_pos (by simp [marks_len]; omega), List.getElem?_map, List.getElem?_append_left (by rw [marks_len]; omega)]
    simp [marks]
  · simp only [hj, if_false, List.getElem?_map, List.getElem?_append, marks_len, List.getElem?_drop]
    by_cases h1 : i < j
    · have h2 : i < j + 1 := by omega
      simp [h1, h2, marks]
    · have h2 : ¬ i < j + 1 := by omega
      have h3 : j + (i - j) = j + 1 + (i - (j + 1)) := by omega
      simp [h1, h2, h3]
theorem own_ne {v u : Value} (h : ∀ c, v.ownBlock = some c → u.ownBlock ≠ some c) : v.ownBlock = none ∨ v.ownBlock ≠ u.ownBlock := by
  cases hv : v.ownBlock with
  | none => exact .inl rfl
  | some c => exact .inr (fun e => h c hv e.symm)

theorem markIntS_any (a : Option Addr) (xs : List Int) (cap : Nat) (k : Int) (B : Nat) (w : World) (h0 : 0 ≤ k) (h1 : k ≤ 1099511627776) (hn : xs.length ≤ 1048576) (ho : OwnI w B (.slice a xs.length cap) xs) :
    Calls Try.prog 25 #[.slice a xs.length cap, .int .i64 k] w fun e w' => e = .returned (.int .i64 (k + xs.length)) ∧ OwnI w' B (.slice a xs.length cap) (marks k xs.length) ∧ w.grownBy w' (Value.slice a xs.length cap).ownBlock := by
  go_enter Try.func25, Try.ntmps25
  go_wp2_with fail
  go_loopw [1, 5] (fun k' i wr => ∃ j : Nat, j ≤ xs.length ∧ i = .int .i64 j ∧ k' = .int .i64 (k + j) ∧ wr.ownsRow B 3 1 (.slice a xs.length cap) xs.length ((marks k j ++ xs.drop j).map (Value.int .i64)) ∧ w.grownBy wr (Value.slice a xs.length cap).ownBlock) (fun _ i _ => xs.length - (intOf i).toNat)
  case atStart => exact ⟨0, Nat.zero_le _, rfl, by simp, by (have e : marks k 0 ++ xs.drop 0 = xs := by simp [marks]); rw [e]; exact ho, World.grownBy.refl _ _⟩
  case round =>
    obtain ⟨j, hj, rfl, rfl, hown, hg⟩ := hrel
    by_cases hlt : j < xs.length
    · obtain ⟨g, rfl⟩ : ∃ g, a = some ⟨g, 0, none⟩ := by
        rcases hown.2 with ⟨e, h⟩ | ⟨g, c, cur, e, _⟩
        · omega
        · simp only [Value.slice.injEq] at e
          exact ⟨g, e.1⟩
      have hst := World.ownsRow.stored hown j (.int .i64 (k + j))
      rw [mark_step k xs j hlt] at hst
      have hcc := World.ownsRow.cellAt hown j (by omega)
      have hfr := World.ownsRow.frozenAt hown j
      have hcc' : ∃ u, wr.cell? ⟨g, j, none⟩ = some u := by
        rw [hcc]
        exact ⟨_, List.getElem?_eq_getElem (by simp [marks_len]; omega)⟩
      obtain ⟨u, hu⟩ := hcc'
      have Hst := Lib.hid hst
      have Hg := Lib.hid (grown_trans hg hst.2)
      clear hst hcc hown hg
      go_wp2
      go_roundw
      case rel => exact ⟨j + 1, by omega, by go_num, by go_num, Hst.out.1, Hg.out⟩
      case measure => simp [intOf]; omega
    · obtain rfl : j = xs.length := by omega
      go_wp2
      go_ret
      refine ⟨rfl, ?_, hg⟩
      have e : marks k xs.length ++ xs.drop xs.length = marks k xs.length := by simp
      rw [e] at hown
      show World.ownsRow _ _ _ _ _ _ _
      rw [marks_len]
      exact hown

theorem markOrder_any (n : Int) (a : Option Addr) (xs : List Int) (cap : Nat) (k : Int) (B : Nat) (w : World) (h0 : 0 ≤ k) (h1 : k ≤ 1099511627776) (hn : xs.length ≤ 1048576) (ho : OwnI w B (.slice a xs.length cap) xs) :
    Calls Try.prog 18 #[.agg #[.int .i64 n, .slice a xs.length cap], .int .i64 k] w fun e w' => e = .returned (.int .i64 (k + xs.length)) ∧ OwnI w' B (.slice a xs.length cap) (marks k xs.length) ∧ w.grownBy w' (Value.slice a xs.length cap).ownBlock := by
  go_enter Try.func18, Try.ntmps18
  go_wp2_with fail
  refine (markIntS_any _ _ _ _ B _ h0 h1 hn (ho.alloc _)).mono ?_
  rintro e w1 ⟨rfl, ho1, hg1⟩
  go_wp2_with fail
  go_ret
  exact ⟨rfl, ho1, grown_alloc_set hg1⟩

theorem heldIntS_any (a : Option Addr) (n cap : Nat) (k : Int) (w : World) (h0 : 0 ≤ k) (h1 : k ≤ 1099511627776) (hn : n ≤ 1048576) (hx : Rd w a (marks k n)) :
    Calls Try.prog 26 #[.slice a n cap, .int .i64 k] w fun e w' => e = .returned (.int .i64 (k + n)) ∧ Below w.heap.size w w' := by
  go_enter Try.func26, Try.ntmps26
  go_wp2_with fail
  go_loop [1, 5] (fun k' i => ∃ j : Nat, j ≤ n ∧ i = .int .i64 j ∧ k' = .int .i64 (k + j)) (fun _ i => n - (intOf i).toNat)
  case atStart => exact ⟨0, Nat.zero_le _, rfl, by simp⟩
  case round =>
    obtain ⟨j, hj, rfl, rfl⟩ := hrel
    by_cases hlt : j < n
    · obtain ⟨b, off, rfl, hbl, hc⟩ := hx.cell j (by rw [marks_len]; exact hlt)
      rw [marks_nth hlt] at hc
      go_wp2_with fail
      go_round
      case rel => exact ⟨j + 1, by omega, by go_num, by go_num⟩
      case measure => simp [intOf]; omega
    · obtain rfl : j = n := by omega
      go_wp2_with fail
      go_ret
      exact ⟨rfl, (by repeat (first | exact Below.refl _ _ | assumption | refine Below.alloc ?_ (by first | exact Nat.le_refl _ | (simp only [World.size_alloc, World.size_setCell, World.size_drew]; omega) | omega) _ | refine Below.setCell ?_ (by first | exact Nat.le_refl _ | (simp only [World.size_alloc, World.size_setCell, World.size_drew]; omega) | omega) _ | refine Below.drew ?_))⟩

theorem walk (n0 : Int) (a0 : Option Addr) (xs0 : List Int) (cap0 : Nat) (w : World) (hn0 : -9223372036854775808 ≤ n0 ∧ n0 ≤ 9223372036854775807) (hx0 : Rd w a0 xs0) :
    Calls Try.prog 5 #[.agg #[.int .i64 n0, .slice a0 xs0.length cap0]] w fun e w' => e = .returned (.bool true) ∧ Below w.heap.size w w' := by
  have hR0 : (chnL n0 xs0).length ≤ 1048576 := chnL_len n0 xs0
  by_cases hs0 : 1048576 < (xs0.length : Int)
  · go_enter Try.func5, Try.ntmps5
    go_wp2_with fail
    refine (szOrder_no (by omega) (by omega) (by omega) hx0.len).mono ?_
    rintro e w1 ⟨rfl, hb1⟩
    have bw1 : Below w.heap.size w w1 := Below.trans (by repeat (first | exact Below.refl _ _ | assumption | refine Below.alloc ?_ (by first | exact Nat.le_refl _ | (simp only [World.size_alloc, World.size_setCell, World.size_drew]; omega) | omega) _ | refine Below.setCell ?_ (by first | exact Nat.le_refl _ | (simp only [World.size_alloc, World.size_setCell, World.size_drew]; omega) | omega) _ | refine Below.drew ?_)) (hb1.mono (by first | (simp only [World.size_alloc, World.size_setCell, World.size_drew]; omega) | omega))
    have A0_1 : Box2 w1 w.heap.size (.int .i64 n0) (.slice a0 xs0.length cap0) := ⟨by have := hb1.size; simp at this; omega, (hb1.cell (p := ⟨w.heap.size, 0, none⟩) (by simp <;> omega)).trans (by simp), (hb1.cell (p := ⟨w.heap.size, 1, none⟩) (by simp <;> omega)).trans (by simp)⟩
    have ⟨zA0_1, cA0_1, dA0_1⟩ := A0_1
    go_wp2_with fail
    go_ret
    exact ⟨rfl, bw1⟩
  go_enter Try.func5, Try.ntmps5
  go_wp2_with fail
  refine (szOrder_ok (by omega) (by omega)).mono ?_
  rintro e w1 ⟨rfl, hb⟩
  have bw1 : Below w.heap.size w w1 := Below.trans (by repeat (first | exact Below.refl _ _ | assumption | refine Below.alloc ?_ (by first | exact Nat.le_refl _ | (simp only [World.size_alloc, World.size_setCell, World.size_drew]; omega) | omega) _ | refine Below.setCell ?_ (by first | exact Nat.le_refl _ | (simp only [World.size_alloc, World.size_setCell, World.size_drew]; omega) | omega) _ | refine Below.drew ?_)) (hb.mono (by first | (simp only [World.size_alloc, World.size_setCell, World.size_drew]; omega) | omega))
  have z1 : w.heap.size ≤ w1.heap.size := bw1.size
  have A0_1 : Box2 w1 w.heap.size (.int .i64 n0) (.slice a0 xs0.length cap0) := ⟨by have := hb.size; simp at this; omega, (hb.cell (p := ⟨w.heap.size, 0, none⟩) (by simp <;> omega)).trans (by simp), (hb.cell (p := ⟨w.heap.size, 1, none⟩) (by simp <;> omega)).trans (by simp)⟩
  have ⟨zA0_1, cA0_1, dA0_1⟩ := A0_1
  clear hb
  go_wp2_with fail
  refine (toOrder_any _ _ _ _ _ (hx0.below bw1) (by omega)).mono ?_
  rintro e w2 ⟨pT0, qT0, rfl, ho, hb⟩
  have ht : Below w1.heap.size w1 w2 := hb
  have z2 : w1.heap.size ≤ w2.heap.size := ht.size
  have bw2 : Below w.heap.size w w2 := bw1.trans (ht.mono bw1.size)
  have A0_2 := A0_1.below ht
  have ⟨zA0_2, cA0_2, dA0_2⟩ := A0_2
  clear A0_1 cA0_1 dA0_1
  have T0_2 := ho
  have UT0 := T0_2.cut (Nat.le_refl _)
  clear ho
  clear ht hb
  go_wp2_with fail
  refine (sChain_any _ _ _ _ _ hn0 (T0_2.rd)).mono ?_
  rintro e w3 ⟨pR0, qR0, rfl, ho0, hb⟩
  have ht : Below w2.heap.size w2 w3 := hb
  have z3 : w2.heap.size ≤ w3.heap.size := ht.size
  have bw3 : Below w.heap.size w w3 := bw2.trans (ht.mono bw2.size)
  have A0_3 := A0_2.below ht
  have ⟨zA0_3, cA0_3, dA0_3⟩ := A0_3
  have T0_3 := T0_2.below ht (Nat.le_refl _)
  clear A0_2 cA0_2 dA0_2 T0_2
  have R0_3 := ho0
  have UR0 := R0_3.cut (Nat.le_refl _)
  clear ho0
  clear ht hb
  go_wp2_with fail
  clear T0_3 UT0
  refine (toOrder_any _ _ _ _ _ (hx0.below bw3) (by omega)).mono ?_
  rintro e w4 ⟨pX0, qX0, rfl, ho, hb⟩
  have ht : Below w3.heap.size w3 w4 := hb
  have z4 : w3.heap.size ≤ w4.heap.size := ht.size
  have bw4 : Below w.heap.size w w4 := bw3.trans (ht.mono bw3.size)
  have A0_4 := A0_3.below ht
  have ⟨zA0_4, cA0_4, dA0_4⟩ := A0_4
  have R0_4 := R0_3.below ht (Nat.le_refl _)
  clear A0_3 cA0_3 dA0_3 R0_3
  have X0_4 := ho
  have UX0 := X0_4.cut (Nat.le_refl _)
  clear ho
  clear ht hb
  go_wp2_with fail
  refine (iChain_any _ _ _ _ _ hn0 (X0_4.rd.below (by repeat (first | exact Below.refl _ _ | assumption | refine Below.alloc ?_ (by first | exact Nat.le_refl _ | (simp only [World.size_alloc, World.size_setCell, World.size_drew]; omega) | omega) _ | refine Below.setCell ?_ (by first | exact Nat.le_refl _ | (simp only [World.size_alloc, World.size_setCell, World.size_drew]; omega) | omega) _ | refine Below.drew ?_)))).mono ?_
  rintro e w5 ⟨pG0, qG0, rfl, ho0, hb⟩
  have ht : Below w4.heap.size w4 w5 := Below.trans (by repeat (first | exact Below.refl _ _ | assumption | refine Below.alloc ?_ (by first | exact Nat.le_refl _ | (simp only [World.size_alloc, World.size_setCell, World.size_drew]; omega) | omega) _ | refine Below.setCell ?_ (by first | exact Nat.le_refl _ | (simp only [World.size_alloc, World.size_setCell, World.size_drew]; omega) | omega) _ | refine Below.drew ?_)) (hb.mono (by first | (simp only [World.size_alloc, World.size_setCell, World.size_drew]; omega) | omega))
  have z5 : w4.heap.size ≤ w5.heap.size := ht.size
  have bw5 : Below w.heap.size w w5 := bw4.trans (ht.mono bw4.size)
  have A0_5 := A0_4.below ht
  have BX0_5 : Box2 w5 w4.heap.size (.int .i64 n0) (.slice pX0 xs0.length qX0) := (Box2.new w4 _ _ 26).below hb
  have ⟨zA0_5, cA0_5, dA0_5⟩ := A0_5
  have ⟨zBX0_5, cBX0_5, dBX0_5⟩ := BX0_5
  have R0_5 := R0_4.below ht (Nat.le_refl _)
  have X0_5 := X0_4.below ht (Nat.le_refl _)
  clear A0_4 cA0_4 dA0_4 R0_4 X0_4
  have G0_5 := ho0
  have UG0 := G0_5.cut (Nat.le_refl _); simp only [World.size_alloc] at UG0
  clear ho0
  clear ht hb
  go_wp2_with fail
  refine (eqIntS_any _ _ (chnL n0 xs0) (chnL n0 xs0) _ _ _ (G0_5.rd) (R0_5.rd)).mono ?_
  rw [eqL_self]
  rintro e w6 ⟨rfl, hb⟩
  have ht : Below w5.heap.size w5 w6 := hb
  have z6 : w5.heap.size ≤ w6.heap.size := ht.size
  have bw6 : Below w.heap.size w w6 := bw5.trans (ht.mono bw5.size)
  have A0_6 := A0_5.below ht
  have BX0_6 := BX0_5.below ht
  have ⟨zA0_6, cA0_6, dA0_6⟩ := A0_6
  have ⟨zBX0_6, cBX0_6, dBX0_6⟩ := BX0_6
  have R0_6 := R0_5.below ht (Nat.le_refl _)
  have X0_6 := X0_5.below ht (Nat.le_refl _)
  have G0_6 := G0_5.below ht (Nat.le_refl _)
  clear A0_5 cA0_5 dA0_5 BX0_5 cBX0_5 dBX0_5 R0_5 X0_5 G0_5
  clear ht hb
  go_wp2_with fail
  go_region_held3 (fun w' => w'.cell? ⟨w.heap.size, 0, none⟩ = some (.int .i64 n0) ∧ w'.cell? ⟨w.heap.size, 1, none⟩ = some (.slice a0 xs0.length cap0) ∧ w'.cell? ⟨w4.heap.size, 0, none⟩ = some (.int .i64 n0) ∧ w'.cell? ⟨w4.heap.size, 1, none⟩ = some (.slice pX0 xs0.length qX0))
    (first | exact ⟨P8.2.1, P8.2.2, Q8.2.1, Q8.2.2⟩ | exact ⟨P7.2.1, P7.2.2, Q7.2.1, Q7.2.2⟩ | go_keep)
    (first | (go_at_call 15; refine (toOrder_any _ _ _ _ _ (hx0.below (bw6.trans (Joins.below_draws _ _ _))) (by omega)).mono ?_; rintro e w7 ⟨a7', cap7', rfl, ho7, hb7⟩; have ht7 : Below w6.heap.size w6 w7 := (Joins.below_draws _ _ _).trans hb7; have P7 := A0_6.below ht7; have Q7 := BX0_6.below ht7) | (go_at_call 17; refine (eqOrder_any _ _ _ _ xs0 xs0 _ _ _ (X0_6.rd.below ht7) ho7.rd).mono ?_; rw [eqO_refl]; rintro e w8 ⟨rfl, hb8⟩; have P8 := P7.below hb8; have Q8 := Q7.below hb8))
  have ht : Below w6.heap.size w6 w8 := ht7.trans (hb8.mono ht7.size)
  have z8 : w6.heap.size ≤ w8.heap.size := ht.size
  have bw8 : Below w.heap.size w w8 := bw6.trans (ht.mono bw6.size)
  clear P7 Q7 P8 Q8 ho7
  have A0_8 := A0_6.below ht
  have BX0_8 := BX0_6.below ht
  have ⟨zA0_8, cA0_8, dA0_8⟩ := A0_8
  have ⟨zBX0_8, cBX0_8, dBX0_8⟩ := BX0_8
  have R0_8 := R0_6.below ht (Nat.le_refl _)
  have X0_8 := X0_6.below ht (Nat.le_refl _)
  have G0_8 := G0_6.below ht (Nat.le_refl _)
  clear A0_6 cA0_6 dA0_6 BX0_6 cBX0_6 dBX0_6 R0_6 X0_6 G0_6
  clear ht hb8 ht7 hb7
  go_wp2_with fail
  refine (markOrder_any _ _ _ _ _ _ _ (by omega) (by omega) (by omega) X0_8).mono ?_
  rintro e w9 ⟨rfl, ho, hg⟩
  have z9 : w8.heap.size ≤ w9.heap.size := hg.size
  have bw9 : Below w.heap.size w w9 := bw8.trans (below_of_grown hg (fun b e => by have := UX0 b e; omega) (by omega))
  have A0_9 := A0_8.kept hg (ne_own (fun c e => by have := UX0 c e; omega))
  have ⟨zA0_9, cA0_9, dA0_9⟩ := A0_9
  have BX0_9 := BX0_8.kept hg (ne_own (fun c e => by have := UX0 c e; omega))
  have ⟨zBX0_9, cBX0_9, dBX0_9⟩ := BX0_9
  have R0_9 := R0_8.kept hg (own_ne (fun c e e2 => by have h1 := UR0 c e; have h2 := UX0 c e2; omega))
  have G0_9 := G0_8.kept hg (own_ne (fun c e e2 => by have h1 := UG0 c e; have h2 := UX0 c e2; omega))
  clear A0_8 cA0_8 dA0_8 BX0_8 cBX0_8 dBX0_8 R0_8 X0_8 G0_8 hg
  have X0_9 := ho
  clear ho
  go_wp2_with fail
  refine (eqIntS_any _ _ (chnL n0 xs0) (chnL n0 xs0) _ _ _ (G0_9.rd) (R0_9.rd)).mono ?_
  rw [eqL_self]
  rintro e w10 ⟨rfl, hb⟩
  have ht : Below w9.heap.size w9 w10 := hb
  have z10 : w9.heap.size ≤ w10.heap.size := ht.size
  have bw10 : Below w.heap.size w w10 := bw9.trans (ht.mono bw9.size)
  have A0_10 := A0_9.below ht
  have BX0_10 := BX0_9.below ht
  have ⟨zA0_10, cA0_10, dA0_10⟩ := A0_10
  have ⟨zBX0_10, cBX0_10, dBX0_10⟩ := BX0_10
  have R0_10 := R0_9.below ht (Nat.le_refl _)
  have X0_10 := X0_9.below ht (Nat.le_refl _)
  have G0_10 := G0_9.below ht (Nat.le_refl _)
  clear A0_9 cA0_9 dA0_9 BX0_9 cBX0_9 dBX0_9 R0_9 X0_9 G0_9
  clear ht hb
  go_wp2_with fail
  refine (markIntS_any _ _ _ _ _ _ (by omega) (by omega) hR0 G0_10).mono ?_
  rintro e w11 ⟨rfl, ho, hg⟩
  have z11 : w10.heap.size ≤ w11.heap.size := hg.size
  have bw11 : Below w.heap.size w w11 := bw10.trans (below_of_grown hg (fun b e => by have := UG0 b e; omega) (by omega))
  have A0_11 := A0_10.kept hg (ne_own (fun c e => by have := UG0 c e; omega))
  have ⟨zA0_11, cA0_11, dA0_11⟩ := A0_11
  have BX0_11 := BX0_10.kept hg (ne_own (fun c e => by have := UG0 c e; omega))
  have ⟨zBX0_11, cBX0_11, dBX0_11⟩ := BX0_11
  have R0_11 := R0_10.kept hg (own_ne (fun c e e2 => by have h1 := UR0 c e; have h2 := UG0 c e2; omega))
  have X0_11 := X0_10.kept hg (own_ne (fun c e e2 => by have h1 := UX0 c e; have h2 := UG0 c e2; omega))
  clear A0_10 cA0_10 dA0_10 BX0_10 cBX0_10 dBX0_10 R0_10 X0_10 G0_10 hg
  have G0_11 := ho
  clear ho
  go_wp2_with fail
  refine (heldIntS_any _ _ _ _ _ (by omega) (by omega) hR0 G0_11.rd).mono ?_
  rintro e w12 ⟨rfl, hb⟩
  have ht : Below w11.heap.size w11 w12 := hb
  have z12 : w11.heap.size ≤ w12.heap.size := ht.size
  have bw12 : Below w.heap.size w w12 := bw11.trans (ht.mono bw11.size)
  have A0_12 := A0_11.below ht
  have BX0_12 := BX0_11.below ht
  have ⟨zA0_12, cA0_12, dA0_12⟩ := A0_12
  have ⟨zBX0_12, cBX0_12, dBX0_12⟩ := BX0_12
  have R0_12 := R0_11.below ht (Nat.le_refl _)
  have X0_12 := X0_11.below ht (Nat.le_refl _)
  have G0_12 := G0_11.below ht (Nat.le_refl _)
  clear A0_11 cA0_11 dA0_11 BX0_11 cBX0_11 dBX0_11 R0_11 X0_11 G0_11
  clear ht hb
  go_wp2_with fail
  clear X0_12 UX0
  refine (toOrder_any _ _ _ _ _ (hx0.below bw12) (by omega)).mono ?_
  rintro e w13 ⟨pV0, qV0, rfl, ho, hb⟩
  have ht : Below w12.heap.size w12 w13 := hb
  have z13 : w12.heap.size ≤ w13.heap.size := ht.size
  have bw13 : Below w.heap.size w w13 := bw12.trans (ht.mono bw12.size)
  have A0_13 := A0_12.below ht
  have BX0_13 := BX0_12.below ht
  have ⟨zA0_13, cA0_13, dA0_13⟩ := A0_13
  have ⟨zBX0_13, cBX0_13, dBX0_13⟩ := BX0_13
  have R0_13 := R0_12.below ht (Nat.le_refl _)
  have G0_13 := G0_12.below ht (Nat.le_refl _)
  clear A0_12 cA0_12 dA0_12 BX0_12 cBX0_12 dBX0_12 R0_12 G0_12
  have V0_13 := ho
  have UV0 := V0_13.cut (Nat.le_refl _)
  clear ho
  clear ht hb
  go_wp2_with fail
  refine (iChain_any _ _ _ _ _ hn0 (V0_13.rd)).mono ?_
  rintro e w14 ⟨pH0, qH0, rfl, ho0, hb⟩
  have ht : Below w13.heap.size w13 w14 := hb
  have z14 : w13.heap.size ≤ w14.heap.size := ht.size
  have bw14 : Below w.heap.size w w14 := bw13.trans (ht.mono bw13.size)
  have A0_14 := A0_13.below ht
  have BX0_14 := BX0_13.below ht
  have ⟨zA0_14, cA0_14, dA0_14⟩ := A0_14
  have ⟨zBX0_14, cBX0_14, dBX0_14⟩ := BX0_14
  have R0_14 := R0_13.below ht (Nat.le_refl _)
  have G0_14 := G0_13.below ht (Nat.le_refl _)
  have V0_14 := V0_13.below ht (Nat.le_refl _)
  clear A0_13 cA0_13 dA0_13 BX0_13 cBX0_13 dBX0_13 R0_13 G0_13 V0_13
  have H0_14 := ho0
  have UH0 := H0_14.cut (Nat.le_refl _)
  clear ho0
  clear ht hb
  go_wp2_with fail
  clear V0_14 UV0
  refine (eqIntS_any _ _ (chnL n0 xs0) (chnL n0 xs0) _ _ _ (H0_14.rd) (R0_14.rd)).mono ?_
  rw [eqL_self]
  rintro e w15 ⟨rfl, hb⟩
  have ht : Below w14.heap.size w14 w15 := hb
  have z15 : w14.heap.size ≤ w15.heap.size := ht.size
  have bw15 : Below w.heap.size w w15 := bw14.trans (ht.mono bw14.size)
  have A0_15 := A0_14.below ht
  have BX0_15 := BX0_14.below ht
  have ⟨zA0_15, cA0_15, dA0_15⟩ := A0_15
  have ⟨zBX0_15, cBX0_15, dBX0_15⟩ := BX0_15
  have R0_15 := R0_14.below ht (Nat.le_refl _)
  have G0_15 := G0_14.below ht (Nat.le_refl _)
  have H0_15 := H0_14.below ht (Nat.le_refl _)
  clear A0_14 cA0_14 dA0_14 BX0_14 cBX0_14 dBX0_14 R0_14 G0_14 H0_14
  clear ht hb
  go_wp2_with fail
  refine (heldIntS_any _ _ _ _ _ (by omega) (by omega) hR0 G0_15.rd).mono ?_
  rintro e w16 ⟨rfl, hb⟩
  have ht : Below w15.heap.size w15 w16 := hb
  have z16 : w15.heap.size ≤ w16.heap.size := ht.size
  have bw16 : Below w.heap.size w w16 := bw15.trans (ht.mono bw15.size)
  have A0_16 := A0_15.below ht
  have BX0_16 := BX0_15.below ht
  have ⟨zA0_16, cA0_16, dA0_16⟩ := A0_16
  have ⟨zBX0_16, cBX0_16, dBX0_16⟩ := BX0_16
  have R0_16 := R0_15.below ht (Nat.le_refl _)
  have G0_16 := G0_15.below ht (Nat.le_refl _)
  have H0_16 := H0_15.below ht (Nat.le_refl _)
  clear A0_15 cA0_15 dA0_15 BX0_15 cBX0_15 dBX0_15 R0_15 G0_15 H0_15
  clear ht hb
  go_wp2_with fail
  go_ret
  exact ⟨rfl, bw16⟩

theorem rd_of_trod {H : Type} {enc : TypeId × Value → H} {W : World} {fuel : Nat} {c : Value} {y : DataW H × List MemPlace}
    (h : DataW.trod enc Try.prog W 0 (fun _ => true) true fuel 22 [c] = some y) : ∃ (a : Option Addr) (xs : List Int) (cap : Nat), c = .slice a xs.length cap ∧ Rd W a xs ∧ ∀ k, k < xs.length → (Lit.int .i64 (nth xs k)).wf = true := by
  rcases Go.ChangeShapes.open_ints Try.underlying22 Try.underlying3 (by kernel_rfl) h with ⟨hcs, _⟩ | ⟨x, len, cap, zs, hcs, _, hl, hm, hz, _, hcell, hwf⟩
  · simp only [List.cons.injEq, and_true] at hcs
    exact ⟨none, [], 0, hcs, ⟨by simp, fun k hk => by simp at hk⟩, fun k hk => by simp at hk⟩
  · simp only [List.cons.injEq, and_true] at hcs
    simp only [if_true] at hz
    have hlen : (zs.take len).length = len := by rw [List.length_take]; omega
    have hn : ∀ k, k < len → nth (zs.take len) k = zs.getD k 0 := by
      intro k hk
      simp only [nth, List.getD_eq_getElem?_getD, List.getElem?_take, hk, if_true]
    refine ⟨some x, zs.take len, cap, by rw [hlen]; exact hcs, ⟨by rw [hlen]; unfold maxLen at hm; omega, fun k hk => ?_⟩, fun k hk => ?_⟩
    · rw [hlen] at hk
      obtain ⟨b, off, sp⟩ := x
      have h0 := hcell 0 (by omega)
      have hsp : sp = none := by simpa [Addr.add] using World.cell?_spot h0
      subst hsp
      have hk' := hcell k (by omega)
      rw [Addr.add_lit] at hk'
      exact ⟨b, off, rfl, World.block_lt_of_cell? _ _ h0, by rw [hk', hn k hk]⟩
    · rw [hlen] at hk
      rw [hn k hk]
      have hk2 : k < zs.length := by omega
      exact hwf _ (by rw [List.getD_eq_getElem?_getD, List.getElem?_eq_getElem hk2]; exact List.getElem_mem hk2)

theorem own : ownKnob Try.prog.godebug = none := by kernel_rfl
theorem laidOut : laidOutB Try.prog = true := by kernel_rfl
theorem wf_bd {n : Int} (h : (Lit.int .i64 n).wf = true) : -9223372036854775808 ≤ n ∧ n ≤ 9223372036854775807 := by
  simp [Lit.wf, IntKind.min, IntKind.max, IntKind.bits, IntKind.signed] at h
  omega

theorem cellsO : Try.prog.cellsOf 24 = 2 := by kernel_rfl

open Go.ChangeShapes Go.WideShapes Go.ChangeAt Go.RowKit in
set_option maxRecDepth 100000 in
theorem lifted (os : Os) (started : os.Started) (H : Type) (enc : TypeId × Value → H) :
    ReturnsInHanded {} Try.checked os 5 .any (Rows.fnExactLongestChainSpec.pre6 enc Try.prog Try.f5 Rows.fnExactLongestChainRow.domain false) (Rows.fnExactLongestChainSpec.post enc Try.prog Try.f5 false true false false) := by
  refine returnsInHanded_of_change (C := Try.checked) own started (by kernel_rfl) Try.func5
    (ChangeSpec.witness6 (enc := enc) (C := Try.checked) false ⟨#[], #[.agg #[.int .i64 0, .slice none 0 0]], []⟩ 8 (by kernel_rfl) (by kernel_rfl) (by kernel_rfl) (by kernel_rfl)) ?_
  intro W base args ds gs before hval0 hW hcnd _
  have hval : ∀ (j : Nat) t v, Try.f5.params[j]? = some t → args[j]? = some v → Value.okWide Try.prog W .any base t v := hval0
  have hW' := hW
  obtain ⟨p, q, hA0, hV, rfl, hfz, hnd⟩ := hW
  have hA : DataW.TrodAll enc Try.prog W 0 (fun _ => true) true Try.f5.params.toList args.toList ds p := hA0
  rw [Try.params5] at hA hval
  obtain ⟨v0, vs0, d0, ds0, p0, q0, hargs, rfl, rfl, h0, r0⟩ := trodAll_cons hA
  obtain ⟨rfl, rfl, rfl⟩ := trodAll_nil r0
  obtain rfl : args = #[v0] := by cases args; simp_all
  obtain ⟨rfl, rfl⟩ := trodVars_none hV
  have lt0 : ∀ x ∈ p0, x.block < W.heap.size := by obtain ⟨m, hm⟩ := h0; exact DataW.trod_lt m _ _ _ hm
  obtain ⟨c00, c01, y00, y01, m0, rfl, hd0, hp0, hy00, hy01⟩ := Go.Joins.open_agg2 Try.underlying24 (by kernel_rfl) cellsO (hval 0 24 v0 rfl rfl) h0
  obtain ⟨n0, e00, _, wf0⟩ := DataW.trod_int Try.underlying3 hy00
  simp only [List.cons.injEq, and_true] at e00
  subst e00
  obtain ⟨a0, xs0, cap0, rfl, rd0, wl0⟩ := rd_of_trod hy01
  clear hA0 hval0
  refine (walk n0 a0 xs0 cap0 W (wf_bd wf0) rd0).mono fun e W' ⟨he, bel⟩ => ?_
  subst he
  exact ⟨_, rfl, _, _, _, [], _, [], hW', trodAll_mk1 (shut_bool Try.underlying4 _), (trodAll_cons_mk (Below.trod laidOut (by kernel_rfl) (of_decide_eq_true (by kernel_rfl)) h0 bel lt0) trodAll_mk0), rfl, bel.frame _, fun h => by cases h⟩
theorem proved : Rows.FnExactLongestChainSaid :=
  OpenClaim.holds_of_wide 5 Try.f5 rfl rfl rfl rfl rfl rfl rfl ⟨rfl, rfl, rfl, rfl, rfl⟩ rfl rfl rfl rfl rfl (by kernel_rfl) Try.func5 (by kernel_rfl)
    (of_decide_eq_true (by kernel_rfl)) (by unfold Func.isWrapper; first | (rw [if_pos (by decide +kernel)]; kernel_rfl) | (rw [if_neg (by decide +kernel)]; exact ⟨rfl, rfl⟩))
    (fun os started H enc _ => lifted os started H enc)

end Go.Proofs.Ytphemaojcjcfpaa.longestChain
