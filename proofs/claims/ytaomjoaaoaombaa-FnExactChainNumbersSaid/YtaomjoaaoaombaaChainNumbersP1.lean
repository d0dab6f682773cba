/- A part of the proof of YtaomjoaaoaombaaChainNumbers: contracts of functions. -/
import Derived.Test.YtaomjoaaoaombaaRows
import Derived.WalkKit
import Derived.WalkSpells
import Derived.WalkLawsBesides
import Derived.Deep.QuietTactic
import Derived.BigQuiet
import Derived.ProofKit
import Derived.OpenShut
import Derived.ShutString
import Derived.ChangeOld
import Derived.Below
import Derived.Lib.SmallJoins
import Derived.Lib.Hide
import Derived.Deep.RegionHeld3
import Derived.Maps.AppendAt
import Derived.Deep.AppendLies
import Derived.Deep.RegionLaw
import Derived.Laws.MakeOwn
import Derived.Laws.OwnMore
namespace Go.Proofs.Ytaomjoaaoaombaa.chainNumbers
open Go Go.RowKit
set_option linter.unusedVariables false
set_option linter.unusedSimpArgs false
set_option maxHeartbeats 400000


/-- a number of a list; a plain function, which the walk leaves alone -/
def nth (xs : List Int) (k : Nat) : Int := xs.getD k 0
theorem nth_get (xs : List Int) (k : Nat) (h : k < xs.length) : nth xs k = xs[k] := by simp [nth, h]
/-- the slice at an address reads as a list -/
structure Rd (w : World) (a : Option Addr) (xs : List Int) : Prop where
  len : xs.length ≤ 9223372036854775807
  cell : ∀ k, k < xs.length → ∃ b off, a = some ⟨b, off, none⟩ ∧ b < w.heap.size ∧ w.cell? ⟨b, off + k, none⟩ = some (.int .i64 (nth xs k))
theorem Rd.below {w w' : World} {a : Option Addr} {xs : List Int} (h : Rd w a xs) (hb : Below w.heap.size w w') : Rd w' a xs :=
  ⟨h.len, fun k hk => by
    obtain ⟨b, off, e, hl, hc⟩ := h.cell k hk
    exact ⟨b, off, e, Nat.lt_of_lt_of_le hl hb.size, (hb.cell (World.block_lt_of_cell? _ _ hc)).trans hc⟩⟩
theorem Rd.mid {w w1 w2 : World} {a : Option Addr} {xs : List Int} {B : Nat} (h : Rd w a xs) (hb : Below B w1 w2) (hB : w.heap.size ≤ B) (h1 : Rd w1 a xs) : Rd w2 a xs :=
  ⟨h.len, fun k hk => by
    obtain ⟨b, off, e, hl, hc⟩ := h.cell k hk
    obtain ⟨b', off', e', hl', hc'⟩ := h1.cell k hk
    rw [e] at e'
    simp only [Option.some.injEq, Addr.mk.injEq, and_true] at e'
    obtain ⟨rfl, rfl⟩ := e'
    exact ⟨b, off, e, Nat.lt_of_lt_of_le hl' hb.size, (hb.cell (by show b < B; omega)).trans hc'⟩⟩
theorem Rd.alloc {w : World} {a : Option Addr} {xs : List Int} (h : Rd w a xs) (o : Obj) : Rd (w.alloc o) a xs :=
  h.below ((Below.refl _ _).alloc (Nat.le_refl _) o)
theorem Rd.same {w w' : World} {a : Option Addr} {xs : List Int} (h : Rd w a xs) (hs : w.heap.size ≤ w'.heap.size)
    (hb : ∀ b off, a = some ⟨b, off, none⟩ → w'.heap[b]? = w.heap[b]?) : Rd w' a xs :=
  ⟨h.len, fun k hk => by
    obtain ⟨b, off, e, hl, hc⟩ := h.cell k hk
    exact ⟨b, off, e, Nat.lt_of_lt_of_le hl hs, (World.cell?_of_block (w := w) (a := ⟨b, off + k, none⟩) (hb b off e)).trans hc⟩⟩
/-- a slice value that owns the row of these integers, in a block from B on -/
def OwnI (w : World) (B : Nat) (v : Value) (xs : List Int) : Prop := w.ownsRow B 3 1 v xs.length (xs.map (Value.int .i64))
theorem OwnI.form {w : World} {B : Nat} {v : Value} {xs : List Int} (h : OwnI w B v xs) : ∃ a cap, v = .slice a xs.length cap := by
  rcases h.2 with ⟨rfl, h0⟩ | ⟨g, cap, cur, rfl, _⟩
  · exact ⟨none, 0, by rw [h0]⟩
  · exact ⟨_, _, rfl⟩
theorem OwnI.rd {w : World} {B n cap : Nat} {a : Option Addr} {xs : List Int} (h : OwnI w B (.slice a n cap) xs) : Rd w a xs := by
  rcases h.2 with ⟨e, h0⟩ | ⟨g, cap', cur, e, hb, hg, hn, hm, hs, ht⟩
  · exact ⟨by omega, fun k hk => by omega⟩
  · simp only [Value.slice.injEq] at e
    obtain ⟨rfl, rfl, rfl⟩ := e
    refine ⟨by unfold maxLen at hm; omega, fun k hk => ⟨g, 0, rfl, (Array.getElem?_eq_some_iff.1 hg).1, ?_⟩⟩
    have := World.ownsRow.cellAt h k (by omega)
    rw [Nat.zero_add, this]
    simp [nth, hk]
theorem OwnI.blk {w : World} {B n cap : Nat} {a : Option Addr} {xs : List Int} (h : OwnI w B (.slice a n cap) xs) : ∀ b off s, a = some ⟨b, off, s⟩ → B ≤ b ∧ b < w.heap.size := by
  intro b off s e
  subst e
  exact World.ownsRow.lt h b rfl
theorem OwnI.kept {w w' : World} {B : Nat} {v : Value} {xs : List Int} {row : Option Nat} (h : OwnI w B v xs) (hg : w.grownBy w' row) (hne : v.ownBlock = none ∨ v.ownBlock ≠ row) : OwnI w' B v xs := World.ownsRow.kept h hg hne
theorem OwnI.mono {w : World} {B B' : Nat} {v : Value} {xs : List Int} (h : OwnI w B v xs) (hB : B' ≤ B) : OwnI w B' v xs := by
  refine ⟨h.1, ?_⟩
  rcases h.2 with hn | ⟨g, cap, cur, e, hb, rest⟩
  · exact .inl hn
  · exact .inr ⟨g, cap, cur, e, by omega, rest⟩
theorem OwnI.below {w w' : World} {B B' : Nat} {v : Value} {xs : List Int} (h : OwnI w B v xs) (hb : Below B' w w') (hB : w.heap.size ≤ B') : OwnI w' B v xs := by
  refine ⟨h.1, ?_⟩
  rcases h.2 with hn | ⟨g, cap, cur, e, hb', hg, rest⟩
  · exact .inl hn
  · refine .inr ⟨g, cap, cur, e, hb', ?_, rest⟩
    rw [hb.block g (by have := (Array.getElem?_eq_some_iff.1 hg).1; omega)]
    exact hg
theorem ret_bool {a b : Bool} (h : a = b) : Ending.returned (.bool a) = .returned (.bool b) := by rw [h]
theorem ret_int {a b : Int} (h : a = b) : Ending.returned (.int .i64 a) = .returned (.int .i64 b) := by rw [h]
theorem val_int {a b : Int} (h : a = b) : Value.int .i64 a = .int .i64 b := by rw [h]
theorem grown_below {w w' : World} {g : Nat} (h : w.grownBy w' (some g)) (B : Nat) (hB : B ≤ g) (hs : B ≤ w.heap.size) : Below B w w' :=
  ⟨h.os, h.tape, h.output, h.size, fun k hk => h.block k (by omega) (by intro e; simp only [Option.some.injEq] at e; omega)⟩
theorem below_grown {w w' : World} {B : Nat} (h : Below B w w') (hB : w.heap.size ≤ B) (row : Option Nat) : w.grownBy w' row :=
  ⟨h.os, h.tape, h.output, h.size, fun k hk _ => h.block k (by omega)⟩
theorem bcell {W w1 : World} (hb : Below W.heap.size W w1) : (∀ b o, b < W.heap.size → w1.cell? ⟨b, o, none⟩ = W.cell? ⟨b, o, none⟩) ∧ (∀ b o, b < W.heap.size → w1.frozen? ⟨b, o, none⟩ = W.frozen? ⟨b, o, none⟩) :=
  ⟨fun b o h => hb.cell (p := ⟨b, o, none⟩) h, fun b o h => hb.frozen (p := ⟨b, o, none⟩) h⟩
theorem infoInt : (Try.prog.info? 3).map (fun i => (i.zero, i.size, i.bytes)) = some (some (.int .i64 0), 1, 8) := by kernel_rfl
theorem OwnI.setBelow {w : World} {B : Nat} {v : Value} {xs : List Int} (h : OwnI w B v xs) {p : Addr} (hp : p.block < B) (u : Value) : OwnI (w.setCell p u) B v xs := ownsRow_setCell_below h hp u
theorem OwnI.alloc {w : World} {B : Nat} {v : Value} {xs : List Int} (h : OwnI w B v xs) (o : Obj) : OwnI (w.alloc o) B v xs := h.below ((Below.refl _ _).alloc (Nat.le_refl _) o) (Nat.le_refl _)
theorem Below.mono' {B B' : Nat} {w w' : World} (h : Below B w w') (hB : B' ≤ B) : Below B' w w' := h.mono hB
/-- a block that holds two cells -/
def Box2 (w : World) (b : Nat) (u v : Value) : Prop := b < w.heap.size ∧ w.cell? ⟨b, 0, none⟩ = some u ∧ w.cell? ⟨b, 1, none⟩ = some v
theorem Box2.below {w w' : World} {b : Nat} {u v : Value} (h : Box2 w b u v) (hb : Below w.heap.size w w') : Box2 w' b u v :=
  ⟨Nat.lt_of_lt_of_le h.1 hb.size, (hb.cell (p := ⟨b, 0, none⟩) h.1).trans h.2.1, (hb.cell (p := ⟨b, 1, none⟩) h.1).trans h.2.2⟩
theorem Box2.new (w : World) (u v : Value) (t : TypeId) : Box2 (w.alloc (.cells #[u, v] t)) w.heap.size u v :=
  ⟨by simp, by simp, by simp⟩
theorem Box2.kept {w w' : World} {b : Nat} {u v : Value} {row : Option Nat} (h : Box2 w b u v) (hg : w.grownBy w' row) (hne : some b ≠ row) : Box2 w' b u v :=
  ⟨Nat.lt_of_lt_of_le h.1 hg.size, hg.cell h.2.1 hne, hg.cell h.2.2 hne⟩
theorem OwnI.lt {w : World} {B : Nat} {v : Value} {xs : List Int} (h : OwnI w B v xs) : ∀ b, v.ownBlock = some b → B ≤ b ∧ b < w.heap.size := World.ownsRow.lt h
theorem OwnI.cut {w : World} {B : Nat} {v : Value} {xs : List Int} (h : OwnI w B v xs) {U : Nat} (hU : w.heap.size ≤ U) : ∀ b, v.ownBlock = some b → B ≤ b ∧ b < U := fun b e => ⟨(h.lt b e).1, Nat.lt_of_lt_of_le (h.lt b e).2 hU⟩
/-- a block of two cells that may be written -/
def Var2 (w : World) (b : Nat) (u v : Value) : Prop := Box2 w b u v ∧ w.frozen? ⟨b, 0, none⟩ = false ∧ w.frozen? ⟨b, 1, none⟩ = false
theorem Var2.below {w w' : World} {b : Nat} {u v : Value} (h : Var2 w b u v) (hb : Below w.heap.size w w') : Var2 w' b u v :=
  ⟨h.1.below hb, (hb.frozen (p := ⟨b, 0, none⟩) h.1.1).trans h.2.1, (hb.frozen (p := ⟨b, 1, none⟩) h.1.1).trans h.2.2⟩
theorem Var2.new (w : World) (u v : Value) (t : TypeId) : Var2 (w.alloc (.cells #[u, v] t)) w.heap.size u v :=
  ⟨Box2.new w u v t, by simp, by simp⟩
theorem Var2.alloc {w : World} {b : Nat} {u v : Value} (h : Var2 w b u v) (o : Obj) : Var2 (w.alloc o) b u v := h.below ((Below.refl _ _).alloc (Nat.le_refl _) o)
theorem Var2.kept {w w' : World} {b : Nat} {u v : Value} {row : Option Nat} (h : Var2 w b u v) (hg : w.grownBy w' row) (hne : some b ≠ row) : Var2 w' b u v :=
  ⟨h.1.kept hg hne, (World.frozen?_of_block (w := w) (a := ⟨b, 0, none⟩) (hg.block b h.1.1 hne)).trans h.2.1, (World.frozen?_of_block (w := w) (a := ⟨b, 1, none⟩) (hg.block b h.1.1 hne)).trans h.2.2⟩
theorem Var2.set {w : World} {b : Nat} {u v : Value} (h : Var2 w b u v) (u' v' : Value) : Var2 ((w.setCell ⟨b, 0, none⟩ u').setCell ⟨b, 1, none⟩ v') b u' v' := by
  refine ⟨⟨by simpa using h.1.1, ?_, ?_⟩, by simpa using h.2.1, by simpa using h.2.2⟩
  · rw [World.cell?_setCell_other _ _ _ _ (by simp), World.cell?_setCell_same _ _ _ h.1.2.1]
  · rw [World.cell?_setCell_same _ _ _ (u := v) (by rw [World.cell?_setCell_other _ _ _ _ (by simp)]; exact h.1.2.2)]
theorem grown_set (w : World) (p : Addr) (u : Value) : w.grownBy (w.setCell p u) (some p.block) :=
  ⟨rfl, rfl, rfl, by simp, fun k hk hn => Below.heap_setCell w p u k (fun e => hn (by rw [e]))⟩
theorem Var2.set1 {w : World} {b : Nat} {u v : Value} (h : Var2 w b u v) (v' : Value) : Var2 (w.setCell ⟨b, 1, none⟩ v') b u v' := by
  refine ⟨⟨by simpa using h.1.1, ?_, ?_⟩, by simpa using h.2.1, by simpa using h.2.2⟩
  · rw [World.cell?_setCell_other _ _ _ _ (by simp)]; exact h.1.2.1
  · rw [World.cell?_setCell_same _ _ _ h.1.2.2]
theorem Box2.set {w : World} {b : Nat} {u v : Value} (h : Box2 w b u v) {p : Addr} (x : Value) (hne : b ≠ p.block) : Box2 (w.setCell p x) b u v :=
  h.kept (grown_set w p x) (by simpa using hne)
theorem Var2.other {w : World} {b : Nat} {u v : Value} (h : Var2 w b u v) {p : Addr} (x : Value) (hne : b ≠ p.block) : Var2 (w.setCell p x) b u v :=
  h.kept (grown_set w p x) (by simpa using hne)
theorem ne_own {v : Value} {b : Nat} (h : ∀ c, v.ownBlock = some c → c ≠ b) : some b ≠ v.ownBlock := fun e => h b e.symm rfl
theorem grown_alloc_set {w w1 : World} {r : Option Nat} {o : Obj} (h : (w.alloc o).grownBy w1 r) : w.grownBy w1 r :=
  ⟨h.os, h.tape, h.output, by have := h.size; simp at this; omega, fun k hk hn => (h.block k (by simp; omega) hn).trans (Below.heap_alloc w o k hk)⟩
theorem grown_trans {w w1 w2 : World} {r : Option Nat} (h1 : w.grownBy w1 r) (h2 : w1.grownBy w2 r) : w.grownBy w2 r :=
  ⟨h2.os.trans h1.os, h2.tape.trans h1.tape, h2.output.trans h1.output, Nat.le_trans h1.size h2.size, fun k hk hn => (h2.block k (by have := h1.size; omega) hn).trans (h1.block k hk hn)⟩
theorem OwnI.nil (w : World) (B : Nat) : OwnI w B (.slice none 0 0) [] := World.ownsRow_nil _ _ _ _
theorem below_of_grown {w w' : World} {v : Value} {B : Nat} (hg : w.grownBy w' v.ownBlock) (hB : ∀ b, v.ownBlock = some b → B ≤ b) (hs : B ≤ w.heap.size) : Below B w w' :=
  ⟨hg.os, hg.tape, hg.output, hg.size, fun k hk => hg.block k (by omega) (fun e => by have := hB k e.symm; omega)⟩

def szF (left : Int) (n : Nat) : Int := if left - n < 0 then -1 else left - n
theorem szIntS_any (a : Option Addr) (n cap : Nat) (l : Int) (w : World) (h0 : 0 ≤ l) (h1 : l ≤ 1048576) (hn : n ≤ 9223372036854775807) :
    Calls Try.prog 46 #[.slice a n cap, .int .i64 l] w fun e w' => e = .returned (.int .i64 (szF l n)) ∧ w = w' := by
  by_cases h : l - n < 0
  · go_enter Try.func46, Try.ntmps46
    go_wp2
    go_ret
    exact ⟨ret_int (by simp [szF, h]), rfl⟩
  · go_enter Try.func46, Try.ntmps46
    go_wp2
    go_ret
    exact ⟨ret_int (by rw [szF, if_neg (by omega)]), rfl⟩

theorem szOrder_any (n : Int) (a : Option Addr) (len cap : Nat) (l : Int) (w : World) (h0 : 0 ≤ l) (h1 : l ≤ 1048576) (hn : len ≤ 9223372036854775807) :
    Calls Try.prog 12 #[.agg #[.int .i64 n, .slice a len cap], .int .i64 l] w fun e w' => e = .returned (.int .i64 (szF l len)) ∧ Below w.heap.size w w' := by
  by_cases h : l - len < 0
  · have hs : szF l len = -1 := by simp [szF, h]
    rw [hs]
    have HS := Lib.hid hs
    clear hs
    go_enter Try.func12, Try.ntmps12
    go_wp2_with (go_at_call 46; refine (szIntS_any _ _ _ _ _ h0 h1 hn).mono ?_; rintro e w' ⟨rfl, rfl⟩; rw [HS.out])
    go_ret
    exact ⟨rfl, (Below.refl _ _).alloc (Nat.le_refl _) _⟩
  · have hs : szF l len = l - len := by rw [szF, if_neg (by omega)]
    have hp : 0 ≤ szF l len := by omega
    clear hs
    go_enter Try.func12, Try.ntmps12
    go_wp2_with (go_at_call 46; refine (szIntS_any _ _ _ _ _ h0 h1 hn).mono ?_; rintro e w' ⟨rfl, rfl⟩)
    go_ret
    exact ⟨rfl, (Below.refl _ _).alloc (Nat.le_refl _) _⟩

theorem szOrder_ok {n : Int} {a : Option Addr} {len cap : Nat} {l : Int} {w : World} (h1 : l ≤ 1048576) (h : len ≤ l) :
    Calls Try.prog 12 #[.agg #[.int .i64 n, .slice a len cap], .int .i64 l] w fun e w' => e = .returned (.int .i64 (l - len)) ∧ Below w.heap.size w w' :=
  (szOrder_any n a len cap l w (by omega) h1 (by omega)).mono (fun e w' hh => ⟨by rw [hh.1, szF, if_neg (by omega)], hh.2⟩)
theorem szOrder_no {n : Int} {a : Option Addr} {len cap : Nat} {l : Int} {w : World} (h0 : 0 ≤ l) (h1 : l ≤ 1048576) (h : l < len) (hl : len ≤ 9223372036854775807) :
    Calls Try.prog 12 #[.agg #[.int .i64 n, .slice a len cap], .int .i64 l] w fun e w' => e = .returned (.int .i64 (-1)) ∧ Below w.heap.size w w' :=
  (szOrder_any n a len cap l w h0 h1 hl).mono (fun e w' hh => ⟨by rw [hh.1, szF, if_pos (by omega)], hh.2⟩)

theorem set_step (xs : List Int) (k : Nat) (h : k < xs.length) :
    ((xs.take k ++ List.replicate (xs.length - k) (0:Int)).map (Value.int .i64)).set k (.int .i64 (nth xs k)) = (xs.take (k+1) ++ List.replicate (xs.length - (k+1)) (0:Int)).map (Value.int .i64) := by
  apply List.ext_getElem?
  intro j
  have hk : (xs.take k).length = k := by simp; omega
  have hk1 : (xs.take (k+1)).length = k+1 := by simp; omega
  rw [List.getElem?_set]
  by_cases hj : k = j
  · subst hj
    rw [if_pos rfl, if_pos (by simp; omega), List.getElem?_map, List.getElem?_append_left (by omega)]
    simp [nth, h]
  · simp only [hj, if_false, List.getElem?_map, List.getElem?_append, hk, hk1, List.getElem?_take, List.getElem?_replicate]
    by_cases h1 : j < k
    · have h2 : j < k + 1 := by omega
      simp [h1, h2]
    · have h2 : ¬ j < k + 1 := by omega
      have h3 : j - k < xs.length - k ↔ j - (k+1) < xs.length - (k+1) := by omega
      simp [h1, h2, h3]
theorem toIntS_any (a : Option Addr) (xs : List Int) (cap : Nat) (w : World) (hx : Rd w a xs) (hn : xs.length ≤ 1048576) :
    Calls Try.prog 44 #[.slice a xs.length cap] w fun e w' => ∃ a' cap', e = .returned (.slice a' xs.length cap') ∧ OwnI w' w.heap.size (.slice a' xs.length cap') xs ∧ Below w.heap.size w w' := by
  obtain ⟨i0, hi, hz0, hz1, hz2⟩ := info_parts infoInt
  go_enter Try.func44, Try.ntmps44
  go_wp2_with (at_make; refine wpList_make_full _ rfl (.tmp 6) (.tmp 6) 22 rfl w.heap.size 3 i0 (.int .i64 0) 1 Try.underlying22 hi hz0 hz1 .i64 .i64 _ _ xs.length rfl rfl rfl rfl (by rw [hz2]; omega) (by unfold maxLen; omega) (Nat.le_refl _) ?_; intro w1 hown hgrow)
  have hb0 : Below w.heap.size w w1 := (Below.refl _ _).grown hgrow (Nat.le_refl _) (fun k h => by cases h)
  have hown0 : w1.ownsRow w.heap.size 3 1 (.slice (some ⟨w.heap.size, 0, none⟩) xs.length xs.length) xs.length ((xs.take 0 ++ List.replicate (xs.length - 0) (0:Int)).map (Value.int .i64)) := by
    simpa [Value.cells, toList_madeCells_one] using hown
  clear hown hgrow
  have hz : w.heap.size < w1.heap.size := by
    have := (World.ownsRow.lt hown0 w.heap.size rfl).2
    omega
  go_loopw [4] (fun i wr => ∃ k : Nat, k ≤ xs.length ∧ i = .int .i64 k ∧ wr.ownsRow w.heap.size 3 1 (.slice (some ⟨w.heap.size, 0, none⟩) xs.length xs.length) xs.length ((xs.take k ++ List.replicate (xs.length - k) (0:Int)).map (Value.int .i64)) ∧ Below w.heap.size w wr) (fun i _ => xs.length - (intOf i).toNat)
  case atStart => exact ⟨0, Nat.zero_le _, rfl, hown0, hb0⟩
  case round =>
    obtain ⟨k, hk, rfl, hown, hb⟩ := hrel
    by_cases hlt : k < xs.length
    · obtain ⟨b, off, rfl, hbl, hc⟩ := hx.cell k hlt
      have hc1 := (hb.cell (p := ⟨b, off + k, none⟩) hbl).trans hc
      have hst := World.ownsRow.stored hown k (.int .i64 (nth xs k))
      rw [set_step xs k hlt] at hst
      have hcc := World.ownsRow.cellAt hown k (by omega)
      have hfr := World.ownsRow.frozenAt hown k
      have hcc' : ∃ u, wr.cell? ⟨w.heap.size, k, none⟩ = some u := by
        rw [hcc]
        exact ⟨_, List.getElem?_eq_getElem (by simp; omega)⟩
      obtain ⟨u, hu⟩ := hcc'
      have Hst := Lib.hid hst
      clear hst hcc hown hc
      go_wp2
      go_roundw
      case rel => exact ⟨k + 1, by omega, by go_num, Hst.out.1, hb.setCell (Nat.le_refl _) _⟩
      case measure => simp [intOf]; omega
    · obtain rfl : k = xs.length := by omega
      go_wp2
      go_ret
      refine ⟨_, _, rfl, ?_, hb⟩
      have : xs.take xs.length ++ List.replicate (xs.length - xs.length) (0:Int) = xs := by simp
      rw [this] at hown
      exact hown

theorem toOrder_any (n : Int) (a : Option Addr) (xs : List Int) (cap : Nat) (w : World) (hx : Rd w a xs) (hn : xs.length ≤ 1048576) :
    Calls Try.prog 14 #[.agg #[.int .i64 n, .slice a xs.length cap]] w fun e w' => ∃ a' cap', e = .returned (.agg #[.int .i64 n, .slice a' xs.length cap']) ∧ OwnI w' w.heap.size (.slice a' xs.length cap') xs ∧ Below w.heap.size w w' := by
  go_enter Try.func14, Try.ntmps14
  go_wp2_with fail
  refine (toIntS_any _ _ _ _ (hx.below (by repeat (first | exact Below.refl _ _ | assumption | refine Below.alloc ?_ (by first | exact Nat.le_refl _ | (simp only [World.size_alloc, World.size_setCell, World.size_drew]; omega) | omega) _ | refine Below.setCell ?_ (by first | exact Nat.le_refl _ | (simp only [World.size_alloc, World.size_setCell, World.size_drew]; omega) | omega) _ | refine Below.drew ?_))) hn).mono ?_
  rintro e w1 ⟨a', cap', rfl, hown, hb⟩
  obtain ⟨hc, hf⟩ := bcell hb
  have hz := hb.size
  simp only [World.size_alloc, World.size_setCell] at hz
  go_wp2
  have hown' := ((((hown.setBelow (p := ⟨w.heap.size + 1 + 1, 1, none⟩) (by first | (simp only [World.size_alloc, World.size_setCell, World.size_drew]; omega) | omega) (.slice a' xs.length cap')).setBelow (p := ⟨w.heap.size + 1, 0, none⟩) (by first | (simp only [World.size_alloc, World.size_setCell, World.size_drew]; omega) | omega) (.int .i64 n)).setBelow (p := ⟨w.heap.size + 1, 1, none⟩) (by first | (simp only [World.size_alloc, World.size_setCell, World.size_drew]; omega) | omega) (.slice a' xs.length cap'))).mono (B' := w.heap.size) (by first | (simp only [World.size_alloc, World.size_setCell, World.size_drew]; omega) | omega)
  have hb' : Below w.heap.size w w1 := Below.trans (by repeat (first | exact Below.refl _ _ | assumption | refine Below.alloc ?_ (by first | exact Nat.le_refl _ | (simp only [World.size_alloc, World.size_setCell, World.size_drew]; omega) | omega) _ | refine Below.setCell ?_ (by first | exact Nat.le_refl _ | (simp only [World.size_alloc, World.size_setCell, World.size_drew]; omega) | omega) _ | refine Below.drew ?_)) (hb.mono (by first | (simp only [World.size_alloc, World.size_setCell, World.size_drew]; omega) | omega))
  refine bodyPost_ret (v := .agg #[.int .i64 n, .slice a' xs.length cap']) (by simp [results, Try.results14, go_sem, hc]) rfl ⟨a', cap', rfl, hown', ?_⟩
  exact ((hb'.setCell (by first | exact Nat.le_refl _ | (simp only [World.size_alloc, World.size_setCell, World.size_drew]; omega) | omega) _).setCell (by first | exact Nat.le_refl _ | (simp only [World.size_alloc, World.size_setCell, World.size_drew]; omega) | omega) _).setCell (by first | exact Nat.le_refl _ | (simp only [World.size_alloc, World.size_setCell, World.size_drew]; omega) | omega) _

def eqL (xs ys : List Int) : Bool := decide (xs = ys)
theorem eqIntS_any (a b : Option Addr) (xs ys : List Int) (ca cb : Nat) (w : World) (hx : Rd w a xs) (hy : Rd w b ys) :
    Calls Try.prog 16 #[.slice a xs.length ca, .slice b ys.length cb] w fun e w' => e = .returned (.bool (eqL xs ys)) ∧ Below w.heap.size w w' := by
  have hlx := hx.len
  have hly := hy.len
  by_cases hl : xs.length = ys.length
  · have hl' : ((xs.length : Int) != (ys.length : Int)) = false := by simp [hl]
    go_enter Try.func16, Try.ntmps16
    have HL := Lib.hid hl
    clear hl
    go_wp2_with fail
    go_loopw [5] (fun i wr => ∃ k : Nat, k ≤ xs.length ∧ i = .int .i64 k ∧ xs.take k = ys.take k ∧ Below w.heap.size w wr) (fun i _ => xs.length - (intOf i).toNat)
    case atStart => exact ⟨0, Nat.zero_le _, rfl, rfl, Below.refl _ _⟩
    case round =>
      obtain ⟨k, hk, rfl, htk, hb⟩ := hrel
      have HT := Lib.hid htk
      clear htk
      by_cases hlt : k < xs.length
      · have hlt' : k < ys.length := by rw [← HL.out]; exact hlt
        obtain ⟨b1, o1, rfl, hb1, hc1⟩ := (hx.below hb).cell k hlt
        obtain ⟨b2, o2, rfl, hb2, hc2⟩ := (hy.below hb).cell k hlt'
        by_cases he : nth xs k = nth ys k
        · have he' : (nth xs k != nth ys k) = false := by simp [he]
          have HE := Lib.hid he
          clear he
          go_wp2_with fail
          go_quiet (fail)
          go_wp2_with fail
          go_roundw
          case rel =>
            refine ⟨k + 1, by omega, by go_num, ?_, by exact hb.trans (Joins.below_draws _ _ _)⟩
            rw [List.take_succ_eq_append_getElem hlt, List.take_succ_eq_append_getElem hlt', HT.out, ← nth_get, ← nth_get, HE.out]
          case measure => simp [intOf]; omega
        · have he' : (nth xs k != nth ys k) = true := by simp [he]
          have hne : eqL xs ys = false := by
            simp only [eqL, decide_eq_false_iff_not]
            intro e
            subst e
            exact he rfl
          have HN := Lib.hid hne
          clear he hne
          go_wp2_with fail
          go_quiet (fail)
          go_wp2_with fail
          go_ret
          exact ⟨ret_bool HN.out.symm, hb.trans (Joins.below_draws _ _ _)⟩
      · go_wp2_with fail
        go_ret
        refine ⟨ret_bool ?_, hb⟩
        have h1 := HT.out
        rw [List.take_of_length_le (by omega), List.take_of_length_le (by rw [← HL.out]; omega)] at h1
        simp [eqL, h1]
  · have hl' : ((xs.length : Int) != (ys.length : Int)) = true := by simp; omega
    have hne : eqL xs ys = false := by
      simp only [eqL, decide_eq_false_iff_not]
      intro e
      exact hl (by rw [e])
    have HN := Lib.hid hne
    clear hl hne
    go_enter Try.func16, Try.ntmps16
    go_wp2_with fail
    go_ret
    exact ⟨ret_bool HN.out.symm, Below.refl _ _⟩
theorem eqL_self (xs : List Int) : eqL xs xs = true := by simp [eqL]

def eqO (n : Int) (xs : List Int) (m : Int) (ys : List Int) : Bool := decide (n = m) && eqL xs ys
theorem eqO_refl (n : Int) (xs : List Int) : eqO n xs n xs = true := by simp [eqO, eqL]
theorem eqOrder_any (n m : Int) (a b : Option Addr) (xs ys : List Int) (ca cb : Nat) (w : World) (hx : Rd w a xs) (hy : Rd w b ys) :
    Calls Try.prog 17 #[.agg #[.int .i64 n, .slice a xs.length ca], .agg #[.int .i64 m, .slice b ys.length cb]] w fun e w' => e = .returned (.bool (eqO n xs m ys)) ∧ Below w.heap.size w w' := by
  by_cases hn : n = m
  · have hn' : (n != m) = false := by simp [hn]
    have HN := Lib.hid hn
    clear hn
    cases he : eqL xs ys
    all_goals
      have HO : Hid (eqO n xs m ys = eqL xs ys) := by simp [Hid, eqO, HN.out]
      have HE := Lib.hid he
      clear he
      go_enter Try.func17, Try.ntmps17
      go_wp2_with fail
      refine (eqIntS_any _ _ xs ys _ _ _ (hx.below (by repeat (first | exact Below.refl _ _ | assumption | refine Below.alloc ?_ (by first | exact Nat.le_refl _ | (simp only [World.size_alloc, World.size_setCell, World.size_drew]; omega) | omega) _ | refine Below.setCell ?_ (by first | exact Nat.le_refl _ | (simp only [World.size_alloc, World.size_setCell, World.size_drew]; omega) | omega) _ | refine Below.drew ?_))) (hy.below (by repeat (first | exact Below.refl _ _ | assumption | refine Below.alloc ?_ (by first | exact Nat.le_refl _ | (simp only [World.size_alloc, World.size_setCell, World.size_drew]; omega) | omega) _ | refine Below.setCell ?_ (by first | exact Nat.le_refl _ | (simp only [World.size_alloc, World.size_setCell, World.size_drew]; omega) | omega) _ | refine Below.drew ?_)))).mono ?_
      rintro e w1 ⟨rfl, hb⟩
      rw [HE.out]
      obtain ⟨hc, hf⟩ := bcell hb
      go_wp2_with fail
      go_ret
      exact ⟨ret_bool (by rw [HO.out, HE.out]), Below.trans (by repeat (first | exact Below.refl _ _ | assumption | refine Below.alloc ?_ (by first | exact Nat.le_refl _ | (simp only [World.size_alloc, World.size_setCell, World.size_drew]; omega) | omega) _ | refine Below.setCell ?_ (by first | exact Nat.le_refl _ | (simp only [World.size_alloc, World.size_setCell, World.size_drew]; omega) | omega) _ | refine Below.drew ?_)) (hb.mono (by first | (simp only [World.size_alloc, World.size_setCell, World.size_drew]; omega) | omega))⟩
  · have hn' : (n != m) = true := by simp [hn]
    have HO : Hid (eqO n xs m ys = false) := by simp [Hid, eqO, hn]
    clear hn
    go_enter Try.func17, Try.ntmps17
    go_wp2_with fail
    go_ret
    exact ⟨ret_bool HO.out.symm, (by repeat (first | exact Below.refl _ _ | assumption | refine Below.alloc ?_ (by first | exact Nat.le_refl _ | (simp only [World.size_alloc, World.size_setCell, World.size_drew]; omega) | omega) _ | refine Below.setCell ?_ (by first | exact Nat.le_refl _ | (simp only [World.size_alloc, World.size_setCell, World.size_drew]; omega) | omega) _ | refine Below.drew ?_))⟩

/-- the first answer that a function gives below n -/
def find1 {α : Type} (f : Nat → Option α) (n : Nat) : Option α := (List.range n).findSome? f
theorem find1_none {α : Type} {f : Nat → Option α} {n : Nat} (h : ∀ j, j < n → f j = none) : find1 f n = none := by
  rw [find1, List.findSome?_eq_none_iff]
  intro x hx
  exact h x (by simpa using hx)
theorem find1_succ {α : Type} {f : Nat → Option α} (n : Nat) : find1 f (n+1) = (find1 f n).or (f n) := by
  rw [find1, List.range_succ, List.findSome?_append]
  simp [find1, List.findSome?]
  cases f n <;> rfl
theorem find1_some {α : Type} {f : Nat → Option α} {x : α} : ∀ {n k : Nat}, k < n → f k = some x → (∀ j, j < k → f j = none) → find1 f n = some x
  | 0, k, hk, _, _ => by omega
  | n+1, k, hk, h1, h2 => by
    rw [find1_succ]
    by_cases e : k = n
    · subst e
      rw [find1_none h2, h1]; rfl
    · rw [find1_some (n := n) (by omega) h1 h2]; rfl
theorem find1_congr {α : Type} {f g : Nat → Option α} {n : Nat} (h : ∀ j, j < n → f j = g j) : find1 f n = find1 g n := by
  unfold find1
  induction n with
  | zero => rfl
  | succ n ih =>
    have := ih (fun j hj => h j (by omega))
    rw [List.range_succ, List.findSome?_append, List.findSome?_append, this]
    congr 1
    simp [List.findSome?, h n (by omega)]
theorem find1_ex {α : Type} {f : Nat → Option α} {x : α} : ∀ {n : Nat}, find1 f n = some x → ∃ k, k < n ∧ f k = some x ∧ ∀ j, j < k → f j = none
  | 0, h => by simp [find1] at h
  | n+1, h => by
    rw [find1_succ] at h
    cases hf : find1 f n with
    | none =>
      rw [hf] at h
      refine ⟨n, by omega, by simpa using h, fun j hj => ?_⟩
      rw [find1, List.findSome?_eq_none_iff] at hf
      exact hf j (by simpa using hj)
    | some y =>
      rw [hf] at h
      have e : y = x := by simpa using h
      subst e
      obtain ⟨k, hk, h1, h2⟩ := find1_ex hf
      exact ⟨k, by omega, h1, h2⟩
theorem find1_map {α β : Type} {f : Nat → Option α} {g : α → β} {n : Nat} : find1 (fun j => (f j).map g) n = (find1 f n).map g := by
  induction n with
  | zero => rfl
  | succ n ih => rw [find1_succ, find1_succ, ih]; cases find1 f n <;> rfl

theorem wrap64_small (n : Int) (h0 : -9223372036854775808 ≤ n) (h1 : n ≤ 9223372036854775807) : IntKind.i64.wrap n = n := by
  simp only [IntKind.wrap, IntKind.bits, IntKind.signed]
  simp
  omega
theorem i64_wrap (n : Int) : IntKind.i64.wrap n = wrap64 n := IntWalk.i64_left n
theorem ofInt_i64 (a : Nat) (ha : a < 9223372036854775808) : (BitVec.ofInt 64 (a : Int)).toNat = a := by
  simp
  omega
theorem and_nat (a b : Nat) (ha : a < 9223372036854775808) (hb : b < 9223372036854775808) : bits .and .i64 (a : Int) (b : Int) = ((a &&& b : Nat) : Int) := by
  have hx : a &&& b < 2 ^ 63 := Nat.and_lt_two_pow _ (by omega)
  show IntKind.i64.wrap ((BitVec.ofInt 64 (a : Int) &&& BitVec.ofInt 64 (b : Int)).toNat : Int) = _
  rw [BitVec.toNat_and, ofInt_i64 a ha, ofInt_i64 b hb, wrap64_small _ (by omega) (by omega)]
theorem or_nat (a b : Nat) (ha : a < 9223372036854775808) (hb : b < 9223372036854775808) : bits .or .i64 (a : Int) (b : Int) = ((a ||| b : Nat) : Int) := by
  have hx : a ||| b < 2 ^ 63 := Nat.or_lt_two_pow (by omega) (by omega)
  show IntKind.i64.wrap ((BitVec.ofInt 64 (a : Int) ||| BitVec.ofInt 64 (b : Int)).toNat : Int) = _
  rw [BitVec.toNat_or, ofInt_i64 a ha, ofInt_i64 b hb, wrap64_small _ (by omega) (by omega)]
/-- a set without the elements of another one -/
def sub (a b : Nat) : Nat := a ^^^ (a &&& b)
theorem testBit_sub (a b i : Nat) : (sub a b).testBit i = (a.testBit i && !b.testBit i) := by
  simp [sub, Nat.testBit_xor, Nat.testBit_and]
  cases a.testBit i <;> cases b.testBit i <;> rfl
theorem sub_lt {a b n : Nat} (h : a < 2 ^ n) : sub a b < 2 ^ n := by
  unfold sub
  exact Nat.xor_lt_two_pow h (by rw [Nat.and_comm]; exact Nat.and_lt_two_pow _ h)
theorem sub_nat (a b : Nat) (ha : a < 9223372036854775808) (hb : b < 9223372036854775808) : bits .andNot .i64 (a : Int) (b : Int) = ((sub a b : Nat) : Int) := by
  have hs : sub a b < 2 ^ 63 := sub_lt (by omega)
  show IntKind.i64.wrap ((BitVec.ofInt 64 (a : Int) &&& ~~~BitVec.ofInt 64 (b : Int)).toNat : Int) = _
  have e : (BitVec.ofInt 64 (a : Int) &&& ~~~BitVec.ofInt 64 (b : Int)).toNat = sub a b := by
    apply Nat.eq_of_testBit_eq
    intro i
    rw [BitVec.testBit_toNat, BitVec.getLsbD_and, BitVec.getLsbD_not, testBit_sub, ← BitVec.testBit_toNat, ← BitVec.testBit_toNat, ofInt_i64 a ha, ofInt_i64 b hb]
    by_cases hi : i < 64
    · simp [hi]
    · have : a.testBit i = false := Nat.testBit_lt_two_pow (Nat.lt_of_lt_of_le (by omega : a < 2 ^ 64) (Nat.pow_le_pow_right (by omega) (by omega)))
      simp [this]
  rw [e, wrap64_small _ (by omega) (by omega)]
theorem shr_nat (s i : Nat) (hs : s < 9223372036854775808) : (s : Int) / (2 ^ min i 64) = ((s >>> i : Nat) : Int) := by
  rw [Nat.shiftRight_eq_div_pow]
  by_cases h : i ≤ 64
  · rw [Nat.min_eq_left h]
    simp
  · rw [Nat.min_eq_right (by omega)]
    have : 2 ^ 64 ≤ 2 ^ i := Nat.pow_le_pow_right (by omega) (by omega)
    rw [Nat.div_eq_of_lt (by omega)]
    omega
theorem bit_and (s i : Nat) (hs : s < 9223372036854775808) : (bits .and .i64 ((s >>> i : Nat) : Int) 1 == 1) = s.testBit i := by
  have h1 : s >>> i ≤ s := by rw [Nat.shiftRight_eq_div_pow]; exact Nat.div_le_self _ _
  have := and_nat (s >>> i) 1 (by omega) (by omega)
  rw [show ((1 : Nat) : Int) = 1 from rfl] at this
  rw [this, Nat.testBit, Nat.and_one_is_mod, Nat.and_comm, Nat.and_one_is_mod]
  rcases Nat.mod_two_eq_zero_or_one (s >>> i) with h | h <;> simp [h]
theorem bit_mod (s i : Nat) : (((s >>> i : Nat) : Int) % 2 == 1) = s.testBit i := by
  rw [Nat.testBit, Nat.and_comm, Nat.and_one_is_mod]
  rcases Nat.mod_two_eq_zero_or_one (s >>> i) with h | h
  · have h2 : ((s >>> i : Nat) : Int) % 2 = 0 := by omega
    rw [h2, h]; rfl
  · have h2 : ((s >>> i : Nat) : Int) % 2 = 1 := by omega
    rw [h2, h]; rfl
theorem bit_tmod (s i : Nat) : (((s >>> i : Nat) : Int).tmod 2 == 1) = s.testBit i := by
  rw [Int.tmod_eq_emod_of_nonneg (Int.natCast_nonneg _), bit_mod]
/-- is i in the set s? -/
def hasB (s i : Int) : Bool := s.toNat.testBit i.toNat
theorem has_and {s i : Int} (h0 : 0 ≤ s) (h1 : s ≤ 9223372036854775807) (hi : 0 ≤ i) : (bits .and .i64 (s / 2 ^ min i.toNat 64) 1 == 1) = hasB s i := by
  obtain ⟨S, rfl⟩ := Int.eq_ofNat_of_zero_le h0
  rw [shr_nat S _ (by omega), bit_and S _ (by omega)]
  rfl
theorem has_mod {s i : Int} (h0 : 0 ≤ s) (h1 : s ≤ 9223372036854775807) (hi : 0 ≤ i) : ((s / 2 ^ min i.toNat 64).tmod 2 == 1) = hasB s i := by
  obtain ⟨S, rfl⟩ := Int.eq_ofNat_of_zero_le h0
  rw [shr_nat S _ (by omega), bit_tmod S]
  rfl
theorem pow_w {k : Nat} (h : k < 62) : wrap64 (2 ^ k) = ((2 ^ k : Nat) : Int) := by
  have : 2 ^ k ≤ 2 ^ 61 := Nat.pow_le_pow_right (by omega) (by omega)
  rw [show ((2:Int) ^ k) = ((2 ^ k : Nat) : Int) by simp]
  generalize hp : 2 ^ k = p at *
  exact IntWalk.wrap64_in _ ⟨by omega, by omega⟩
theorem or_bit {b k : Nat} (hb : b < 4611686018427387904) (hk : k < 62) : bits .or .i64 (b : Int) (wrap64 (2 ^ k)) = ((b ||| 2 ^ k : Nat) : Int) := by
  rw [pow_w hk]
  have : 2 ^ k ≤ 2 ^ 61 := Nat.pow_le_pow_right (by omega) (by omega)
  exact or_nat _ _ (by omega) (by omega)
theorem or_i {a b : Int} (ha : 0 ≤ a) (ha1 : a < 9223372036854775808) (hb : 0 ≤ b) (hb1 : b < 9223372036854775808) : bits .or .i64 a b = ((a.toNat ||| b.toNat : Nat) : Int) := by
  obtain ⟨A, rfl⟩ := Int.eq_ofNat_of_zero_le ha
  obtain ⟨B, rfl⟩ := Int.eq_ofNat_of_zero_le hb
  exact or_nat A B (by omega) (by omega)
theorem sub_i {a b : Int} (ha : 0 ≤ a) (ha1 : a < 9223372036854775808) (hb : 0 ≤ b) (hb1 : b < 9223372036854775808) : bits .andNot .i64 a b = ((sub a.toNat b.toNat : Nat) : Int) := by
  obtain ⟨A, rfl⟩ := Int.eq_ofNat_of_zero_le ha
  obtain ⟨B, rfl⟩ := Int.eq_ofNat_of_zero_le hb
  exact sub_nat A B (by omega) (by omega)
theorem or_lt {a b n : Nat} (ha : a < 2 ^ n) (hb : b < 2 ^ n) : a ||| b < 2 ^ n := Nat.or_lt_two_pow ha hb
theorem two_lt {k n : Nat} (h : k < n) : 2 ^ k < 2 ^ n := Nat.pow_lt_pow_right (by omega) h
theorem testBit_two (k i : Nat) : (2 ^ k).testBit i = decide (k = i) := Nat.testBit_two_pow

def inB (n lo hi : Int) : Bool := decide (lo ≤ n) && decide (n ≤ hi)
theorem inB_iff {n lo hi : Int} : inB n lo hi = true ↔ lo ≤ n ∧ n ≤ hi := by simp [inB]
theorem inB_no {n lo hi : Int} : inB n lo hi = false ↔ n < lo ∨ hi < n := by
  rw [← Bool.not_eq_true, inB_iff]
  omega

def allB (xs : List Int) (lo hi : Int) : Bool := xs.all (fun x => inB x lo hi)
theorem allB_take (xs : List Int) (lo hi : Int) (k : Nat) (h : k < xs.length) : allB (xs.take (k+1)) lo hi = (allB (xs.take k) lo hi && inB (nth xs k) lo hi) := by
  simp only [allB]
  rw [List.take_succ_eq_append_getElem h, List.all_append]
  simp [nth, h]
theorem allB_false {xs : List Int} {lo hi : Int} {k : Nat} (h : k < xs.length) (h1 : inB (nth xs k) lo hi = false) : allB xs lo hi = false := by
  simp only [allB, List.all_eq_false]
  exact ⟨xs[k], List.getElem_mem h, by simpa [nth, h] using h1⟩
theorem allB_nth {xs : List Int} {lo hi : Int} (h : allB xs lo hi = true) {k : Nat} (hk : k < xs.length) : lo ≤ nth xs k ∧ nth xs k ≤ hi := by
  simp only [allB, List.all_eq_true] at h
  have := inB_iff.1 (h _ (List.getElem_mem hk))
  rwa [← nth_get xs k hk] at this

/-- is it a relation? -/
def relB (n : Int) (xs : List Int) : Bool := inB n 0 10 && decide ((xs.length : Int) = n) && allB xs 0 (2 ^ n.toNat - 1)
theorem relB_iff {n : Int} {xs : List Int} : relB n xs = true ↔ (0 ≤ n ∧ n ≤ 10) ∧ (xs.length : Int) = n ∧ allB xs 0 (2 ^ n.toNat - 1) = true := by
  simp [relB, inB_iff, and_assoc]
theorem pow10 {n : Nat} (h : n ≤ 10) : (1 : Int) ≤ 2 ^ n ∧ (2 : Int) ^ n ≤ 1024 := by
  have h1 : 2 ^ n ≤ 2 ^ 10 := Nat.pow_le_pow_right (by omega) h
  have h2 : 1 ≤ 2 ^ n := Nat.one_le_two_pow
  have h3 : ((2 ^ n : Nat) : Int) = (2 : Int) ^ n := by simp
  omega
theorem full_eq {n : Int} (h0 : 0 ≤ n) (h1 : n ≤ 10) : wrap64 (wrap64 (2 ^ n.toNat) - 1) = 2 ^ n.toNat - 1 := by
  have h2 := pow10 (n := n.toNat) (by omega)
  generalize (2 : Int) ^ n.toNat = p at *
  rw [IntWalk.wrap64_in p ⟨by omega, by omega⟩, IntWalk.wrap64_in _ ⟨by omega, by omega⟩]
structure RelP (n : Int) (xs : List Int) : Prop where
  n0 : 0 ≤ n
  n1 : n ≤ 10
  len : (xs.length : Int) = n
  pos : ∀ k, k < xs.length → 0 ≤ nth xs k
  lt : ∀ k, k < xs.length → nth xs k < 2 ^ xs.length
  small : ∀ k, k < xs.length → nth xs k < 1024
theorem relB_p {n : Int} {xs : List Int} (h : relB n xs = true) : RelP n xs := by
  obtain ⟨⟨h0, h1⟩, h2, h3⟩ := relB_iff.1 h
  have e : n.toNat = xs.length := by omega
  rw [e] at h3
  have hp := pow10 (n := xs.length) (by omega)
  exact ⟨h0, h1, h2, fun k hk => (allB_nth h3 hk).1, fun k hk => by have := (allB_nth h3 hk).2; omega, fun k hk => by have := (allB_nth h3 hk).2; omega⟩

/-- one step of the closing: what is above k goes to i, if k is above i -/
def clStep (xs : List Int) (k i : Nat) : List Int := if hasB (nth xs i) k then xs.set i (((nth xs i).toNat ||| (nth xs k).toNat : Nat) : Int) else xs
def clRow (xs : List Int) (k : Nat) : Nat → List Int
  | 0 => xs
  | i+1 => clStep (clRow xs k i) k i
def clAll (xs : List Int) : Nat → List Int
  | 0 => xs
  | k+1 => clRow (clAll xs k) k xs.length
theorem clStep_len (xs : List Int) (k i : Nat) : (clStep xs k i).length = xs.length := by
  unfold clStep; split <;> simp
theorem clRow_len (xs : List Int) (k : Nat) : ∀ i, (clRow xs k i).length = xs.length
  | 0 => rfl
  | i+1 => by rw [clRow, clStep_len, clRow_len xs k i]
theorem clAll_len (xs : List Int) : ∀ k, (clAll xs k).length = xs.length
  | 0 => rfl
  | k+1 => by rw [clAll, clRow_len, clAll_len xs k]
/-- all numbers of a list are sets below 1024 -/
def Small (xs : List Int) : Prop := ∀ k, k < xs.length → 0 ≤ nth xs k ∧ nth xs k < 1024
theorem nth_set {xs : List Int} {i j : Nat} {x : Int} (hi : i < xs.length) : nth (xs.set i x) j = if i = j then x else nth xs j := by
  simp only [nth, List.getD_eq_getElem?_getD, List.getElem?_set]
  by_cases h : i = j
  · subst h; simp [hi]
  · simp [h]
theorem clStep_small {xs : List Int} (h : Small xs) {k i : Nat} (hk : k < xs.length) (hi : i < xs.length) : Small (clStep xs k i) := by
  unfold clStep
  split
  · intro j hj
    rw [nth_set hi]
    have h1 := h i hi
    have h2 := h k hk
    split
    · have : (nth xs i).toNat ||| (nth xs k).toNat < 2 ^ 10 := or_lt (by omega) (by omega)
      omega
    · exact h j (by simpa using hj)
  · exact h
theorem clRow_small {xs : List Int} (h : Small xs) {k : Nat} (hk : k < xs.length) : ∀ i, i ≤ xs.length → Small (clRow xs k i)
  | 0, _ => h
  | i+1, hi => clStep_small (clRow_small h hk i (by omega)) (by rw [clRow_len]; exact hk) (by rw [clRow_len]; omega)
theorem clAll_small {xs : List Int} (h : Small xs) : ∀ k, k ≤ xs.length → Small (clAll xs k)
  | 0, _ => h
  | k+1, hk => clRow_small (clAll_small h k (by omega)) (by rw [clAll_len]; omega) _ (by rw [clAll_len]; omega)
theorem RelP.sm {n : Int} {xs : List Int} (h : RelP n xs) : Small xs := fun k hk => ⟨h.pos k hk, h.small k hk⟩
theorem set_ints (xs : List Int) (i : Nat) (x : Int) : (xs.map (Value.int .i64)).set i (.int .i64 x) = (xs.set i x).map (Value.int .i64) := by
  rw [List.map_set]
/-- a store into an owned row -/
theorem OwnI.put {w : World} {B g n cap : Nat} {xs : List Int} (h : OwnI w B (.slice (some ⟨g, 0, none⟩) n cap) xs) (hn : n = xs.length) (i : Nat) (x : Int) :
    OwnI (w.setCell ⟨g, i, none⟩ (.int .i64 x)) B (.slice (some ⟨g, 0, none⟩) n cap) (xs.set i x) ∧ w.grownBy (w.setCell ⟨g, i, none⟩ (.int .i64 x)) (some g) := by
  subst hn
  have hst := World.ownsRow.stored h i (.int .i64 x)
  rw [set_ints] at hst
  refine ⟨?_, hst.2⟩
  unfold OwnI
  rw [List.length_set]
  exact hst.1
theorem OwnI.at' {w : World} {B g n cap : Nat} {xs : List Int} (h : OwnI w B (.slice (some ⟨g, 0, none⟩) n cap) xs) (hn : n = xs.length) {i : Nat} (hi : i < xs.length) :
    w.cell? ⟨g, i, none⟩ = some (.int .i64 (nth xs i)) ∧ w.frozen? ⟨g, i, none⟩ = false := by
  subst hn
  refine ⟨?_, World.ownsRow.frozenAt h i⟩
  rw [World.ownsRow.cellAt h i (by omega)]
  simp [nth, hi]
theorem OwnI.head {w : World} {B n cap : Nat} {a : Option Addr} {xs : List Int} (h : OwnI w B (.slice a n cap) xs) (hp : 0 < xs.length) : ∃ g, a = some ⟨g, 0, none⟩ ∧ B ≤ g ∧ g < w.heap.size := by
  rcases h.2 with ⟨e, h0⟩ | ⟨g, c, cur, e, hb, hg, _⟩
  · omega
  · simp only [Value.slice.injEq] at e
    exact ⟨g, e.1, hb, (Array.getElem?_eq_some_iff.1 hg).1⟩
def cloN (n : Int) (xs : List Int) : Int := if relB n xs then n else 0
def cloL (n : Int) (xs : List Int) : List Int := if relB n xs then clAll xs xs.length else []
theorem cloL_len (n : Int) (xs : List Int) : (cloL n xs).length ≤ 1048576 := by
  unfold cloL
  split
  · rename_i h
    have hp := relB_p h
    have := hp.len
    have := hp.n1
    rw [clAll_len]
    omega
  · simp

/-- the least number that is greater than all of the first k -/
def unTo (l : List Int) : Nat → Nat
  | 0 => 0
  | k+1 => max (unTo l k) ((nth l k).toNat + 1)
/-- the first list that goes on a list so far, in which each longer beginning fits -/
def cnS (F : List Int → Bool) (lim : Nat) : Nat → List Int → Option (List Int)
  | 0, l => some l
  | d+1, l => find1 (fun x => if F (l ++ [(x : Int)]) then cnS F lim d (l ++ [(x : Int)]) else none) (min lim (unTo l l.length + 1))
theorem cnS_len {F : List Int → Bool} {lim : Nat} : ∀ {d : Nat} {l ys : List Int}, cnS F lim d l = some ys → ys.length = l.length + d
  | 0, l, ys, h => by simp only [cnS, Option.some.injEq] at h; rw [h]; rfl
  | d+1, l, ys, h => by
    simp only [cnS] at h
    obtain ⟨x, _, h1, _⟩ := find1_ex h
    split at h1
    · have := cnS_len h1
      rw [this, List.length_append]; simp; omega
    · cases h1
/-- are all numbers of a list less than a limit? -/
def LtL (lim : Nat) (l : List Int) : Prop := ∀ i, i < l.length → 0 ≤ nth l i ∧ nth l i < (lim : Int)
theorem LtL.snoc {lim : Nat} {l : List Int} (h : LtL lim l) {x : Nat} (hx : x < lim) : LtL lim (l ++ [(x : Int)]) := by
  intro i hi
  rw [List.length_append, List.length_singleton] at hi
  by_cases e : i = l.length
  · have : nth (l ++ [(x : Int)]) i = (x : Int) := by simp [nth, List.getD_eq_getElem?_getD, e]
    rw [this]; omega
  · have : nth (l ++ [(x : Int)]) i = nth l i := by simp [nth, List.getD_eq_getElem?_getD, List.getElem?_append_left (show i < l.length by omega)]
    rw [this]; exact h i (by omega)
theorem unTo_le {lim : Nat} {l : List Int} (h : LtL lim l) : ∀ k, k ≤ l.length → unTo l k ≤ lim
  | 0, _ => by simp [unTo]
  | k+1, hk => by
    have ih := unTo_le h k (by omega)
    have h1 := h k (by omega)
    simp only [unTo]
    omega

/-- the elements of a set that are less than k, in order -/
def elemsTo (s : Nat) : Nat → List Int
  | 0 => []
  | k+1 => if s.testBit k then elemsTo s k ++ [(k : Int)] else elemsTo s k
theorem elemsTo_len (s : Nat) : ∀ k, (elemsTo s k).length ≤ k
  | 0 => by simp [elemsTo]
  | k+1 => by
    have := elemsTo_len s k
    simp only [elemsTo]
    split <;> simp <;> omega
theorem mem_elemsTo (s : Nat) (x : Int) : ∀ k, x ∈ elemsTo s k ↔ ∃ i : Nat, i < k ∧ s.testBit i = true ∧ x = i
  | 0 => by simp [elemsTo]
  | k+1 => by
    have ih := mem_elemsTo s x k
    simp only [elemsTo]
    cases hb : s.testBit k
    · rw [if_neg (by simp), ih]
      constructor
      · rintro ⟨i, h1, h2, h3⟩
        exact ⟨i, by omega, h2, h3⟩
      · rintro ⟨i, h1, h2, h3⟩
        have : i ≠ k := fun e => by rw [e, hb] at h2; cases h2
        exact ⟨i, by omega, h2, h3⟩
    · rw [if_pos rfl, List.mem_append, ih]
      constructor
      · rintro (⟨i, h1, h2, h3⟩ | h)
        · exact ⟨i, by omega, h2, h3⟩
        · exact ⟨k, by omega, hb, by simpa using h⟩
      · rintro ⟨i, h1, h2, h3⟩
        by_cases e : i = k
        · exact .inr (by simp [h3, e])
        · exact .inl ⟨i, by omega, h2, h3⟩
theorem elemsTo_more (s k : Nat) (h : s >>> k = 0) : ∀ m, elemsTo s (k + m) = elemsTo s k
  | 0 => rfl
  | m+1 => by
    have hb : s.testBit (k + m) = false := by
      rw [Nat.testBit]
      have : s >>> (k + m) = 0 := by rw [Nat.shiftRight_add, h]; simp
      simp [this]
    show elemsTo s (k + m + 1) = _
    simp only [elemsTo, hb]
    exact elemsTo_more s k h m
/-- all elements of a set below 1024 -/
def elems (s : Nat) : List Int := elemsTo s 10
theorem elems_at {s k : Nat} (h : s >>> k = 0) (hk : k ≤ 10) : elemsTo s k = elems s := by
  have := elemsTo_more s k h (10 - k)
  rw [show k + (10 - k) = 10 from by omega] at this
  exact this.symm
theorem elems_len (s : Nat) : (elems s).length ≤ 10 := elemsTo_len s 10
theorem mem_elems {s : Nat} (hs : s < 1024) {x : Int} : x ∈ elems s ↔ ∃ i : Nat, s.testBit i = true ∧ x = i := by
  rw [elems, mem_elemsTo]
  constructor
  · rintro ⟨i, _, h2, h3⟩
    exact ⟨i, h2, h3⟩
  · rintro ⟨i, h2, h3⟩
    refine ⟨i, ?_, h2, h3⟩
    rcases Nat.lt_or_ge i 10 with h | h
    · exact h
    · have : s < 2 ^ i := Nat.lt_of_lt_of_le hs (Nat.pow_le_pow_right (by omega : 0 < 2) h)
      rw [Nat.testBit_lt_two_pow this] at h2
      cases h2
theorem nth_mem {xs : List Int} {k : Nat} (h : k < xs.length) : nth xs k ∈ xs := by
  rw [nth_get xs k h]; exact List.getElem_mem h
theorem mem_nth {xs : List Int} {x : Int} (h : x ∈ xs) : ∃ k, k < xs.length ∧ nth xs k = x := by
  obtain ⟨k, hk, e⟩ := List.getElem_of_mem h
  exact ⟨k, hk, by rw [nth_get xs k hk, e]⟩

theorem elems_lt {S n : Nat} (hS : S < 2 ^ n) (hn : n ≤ 10) : elems S = elemsTo S n := (elems_at (by rw [Nat.shiftRight_eq_div_pow]; exact Nat.div_eq_of_lt hS) hn).symm

/-- the first answer over a set's elements -/
def findE {α : Type} (s : Nat) (f : Nat → Option α) : Option α := (elems s).findSome? (fun x => f x.toNat)
theorem findE_to {α : Type} (s : Nat) (f : Nat → Option α) : ∀ n, (elemsTo s n).findSome? (fun x => f x.toNat) = find1 (fun b => if s.testBit b then f b else none) n
  | 0 => by simp [elemsTo, find1]
  | n+1 => by
    rw [find1_succ, ← findE_to s f n]
    simp only [elemsTo]
    cases h : s.testBit n
    · simp
    · simp only [if_true, List.findSome?_append]
      congr 1
      simp [List.findSome?]
      cases f n <;> rfl
theorem findE_eq {α : Type} {s n : Nat} (f : Nat → Option α) (hs : s < 2 ^ n) (hn : n ≤ 10) : findE s f = find1 (fun b => if s.testBit b then f b else none) n := by
  rw [findE, elems_lt hs hn, findE_to]
def four (a b c d : Nat) : List Int := [(a : Int), (b : Int), (c : Int), (d : Int)]
theorem findE_ex {α : Type} {s : Nat} {f : Nat → Option α} {y : α} (hs : s < 1024) (h : findE s f = some y) : ∃ d, s.testBit d = true ∧ f d = some y := by
  rw [findE_eq (n := 10) f hs (by omega)] at h
  obtain ⟨k, _, h1, _⟩ := find1_ex h
  split at h1
  · exact ⟨k, by assumption, h1⟩
  · cases h1
theorem findE_no {α : Type} {s : Nat} {f : Nat → Option α} (hs : s < 1024) (h : ∀ d, s.testBit d = true → f d = none) : findE s f = none := by
  rw [findE_eq (n := 10) f hs (by omega)]
  refine find1_none (fun j _ => ?_)
  split
  · exact h j (by assumption)
  · rfl
theorem has_bit (s : Int) (b : Nat) : hasB s (b : Int) = s.toNat.testBit b := rfl
theorem findE_at {α : Type} {s p : Nat} {f : Nat → Option α} {y : α} (hp : p < (elems s).length) (h : f (nth (elems s) p).toNat = some y) (hb : ∀ q, q < p → f (nth (elems s) q).toNat = none) : findE s f = some y := by
  unfold findE
  rw [← List.take_append_drop p (elems s), List.findSome?_append, List.drop_eq_getElem_cons hp]
  have h1 : (List.take p (elems s)).findSome? (fun x => f x.toNat) = none := by
    rw [List.findSome?_eq_none_iff]
    intro x hx
    obtain ⟨q, hq, e⟩ := List.getElem_of_mem hx
    rw [List.length_take] at hq
    have := hb q (by omega)
    rw [nth_get _ _ (by omega)] at this
    rw [← e, List.getElem_take]
    exact this
  rw [nth_get _ _ hp] at h
  rw [h1, List.findSome?_cons, h]
  rfl
theorem findE_nil {α : Type} {s : Nat} {f : Nat → Option α} (hb : ∀ q, q < (elems s).length → f (nth (elems s) q).toNat = none) : findE s f = none := by
  unfold findE
  rw [List.findSome?_eq_none_iff]
  intro x hx
  obtain ⟨q, hq, rfl⟩ := mem_nth hx
  exact hb q hq

/-- is it a table? -/
def tabB (R C : Int) (xs : List Int) : Bool := inB R 1 6 && (inB C 1 6 && (decide ((xs.length : Int) = R) && allB xs 0 (2 ^ C.toNat - 1)))
structure TabP (R C : Int) (xs : List Int) : Prop where
  r0 : 1 ≤ R
  r1 : R ≤ 6
  c0 : 1 ≤ C
  c1 : C ≤ 6
  len : (xs.length : Int) = R
  all : allB xs 0 (2 ^ C.toNat - 1) = true
  pos : ∀ k, k < xs.length → 0 ≤ nth xs k
  lt : ∀ k, k < xs.length → nth xs k < 2 ^ C.toNat
  small : ∀ k, k < xs.length → nth xs k < 64
theorem pow6 {n : Nat} (h : n ≤ 6) : (1 : Int) ≤ 2 ^ n ∧ (2 : Int) ^ n ≤ 64 := by
  have h1 : 2 ^ n ≤ 2 ^ 6 := Nat.pow_le_pow_right (by omega) h
  have h2 : 1 ≤ 2 ^ n := Nat.one_le_two_pow
  have h3 : ((2 ^ n : Nat) : Int) = (2 : Int) ^ n := by simp
  omega
theorem tabB_p {R C : Int} {xs : List Int} (h : tabB R C xs = true) : TabP R C xs := by
  simp only [tabB, Bool.and_eq_true, inB_iff, decide_eq_true_eq] at h
  obtain ⟨⟨h0, h1⟩, ⟨h2, h3⟩, h4, h5⟩ := h
  have hp := pow6 (n := C.toNat) (by omega)
  exact ⟨h0, h1, h2, h3, h4, h5, fun k hk => (allB_nth h5 hk).1, fun k hk => by have := (allB_nth h5 hk).2; omega, fun k hk => by have := (allB_nth h5 hk).2; omega⟩

/-- the list of f 0, .., f (k - 1) -/
def fmap (f : Nat → Int) (k : Nat) : List Int := (List.range k).map f
theorem fmap_len (f : Nat → Int) (k : Nat) : (fmap f k).length = k := by simp [fmap]
theorem fmap_nth (f : Nat → Int) {k i : Nat} (h : i < k) : nth (fmap f k) i = f i := by simp [nth, fmap, h]
theorem fmap_succ (f : Nat → Int) (k : Nat) : fmap f (k+1) = fmap f k ++ [f k] := by simp [fmap, List.range_succ]
/-- one store more into a row that was made -/
theorem fill_step (f : Nat → Int) (m k : Nat) (h : k < m) :
    ((fmap f k ++ List.replicate (m - k) (0:Int)).map (Value.int .i64)).set k (.int .i64 (f k)) = (fmap f (k+1) ++ List.replicate (m - (k+1)) (0:Int)).map (Value.int .i64) := by
  apply List.ext_getElem?
  intro j
  rw [List.getElem?_set]
  by_cases hj : k = j
  · subst hj
    rw [if_pos rfl, if_pos (by simp [fmap_len]; omega), List.getElem?_map, List.getElem?_append_left (by rw [fmap_len]; omega)]
    simp [fmap]
  · simp only [hj, if_false, List.getElem?_map, List.getElem?_append, fmap_len, List.getElem?_replicate]
    by_cases h1 : j < k
    · have h2 : j < k + 1 := by omega
      simp [h1, h2, fmap]
    · have h2 : ¬ j < k + 1 := by omega
      have h3 : j - k < m - k ↔ j - (k+1) < m - (k+1) := by omega
      simp [h1, h2, h3]
theorem fill_end (f : Nat → Int) (m : Nat) : fmap f m ++ List.replicate (m - m) (0:Int) = fmap f m := by simp
/-- the row that a make of m integers has made -/
theorem made_ints {w1 : World} {B : Nat} {v : Value} {m : Nat} (f : Nat → Int) (h : w1.ownsRow B 3 1 v m (madeCells (Value.int .i64 0).cells (m * 1)).toList) :
    w1.ownsRow B 3 1 v m ((fmap f 0 ++ List.replicate (m - 0) (0:Int)).map (Value.int .i64)) := by
  simpa [Value.cells, toList_madeCells_one, fmap] using h

/-- the set of the numbers below k that a function tells -/
def rowBits (F : Nat → Bool) : Nat → Nat
  | 0 => 0
  | k+1 => if F k then rowBits F k ||| 2 ^ k else rowBits F k
theorem rowBits_lt (F : Nat → Bool) : ∀ k, rowBits F k < 2 ^ k
  | 0 => by simp [rowBits]
  | k+1 => by
    have h := rowBits_lt F k
    have h2 : 2 ^ k < 2 ^ (k+1) := two_lt (by omega)
    simp only [rowBits]
    split
    · exact or_lt (by omega) h2
    · omega
theorem rowBits_small (F : Nat → Bool) {k : Nat} (h : k ≤ 6) : rowBits F k < 64 := by
  have h1 := rowBits_lt F k
  have h2 : 2 ^ k ≤ 2 ^ 6 := Nat.pow_le_pow_right (by omega) h
  omega
theorem rowBits_bit (F : Nat → Bool) (j : Nat) : ∀ k, (rowBits F k).testBit j = (decide (j < k) && F j)
  | 0 => by simp [rowBits]
  | k+1 => by
    have h := rowBits_bit F j k
    simp only [rowBits]
    by_cases hjk : j = k
    · subst hjk
      cases hb : F j
      · simp [h]
      · simp [Nat.testBit_or, testBit_two]
    · have e : decide (j < k + 1) = decide (j < k) := by
        rw [decide_eq_decide]; omega
      rw [e, ← h]
      have hkj : ¬ k = j := fun e => hjk e.symm
      cases hb : F k <;> simp [Nat.testBit_or, testBit_two, hkj]
theorem rowBits_congr {F G : Nat → Bool} {k : Nat} (h : ∀ j, j < k → F j = G j) : rowBits F k = rowBits G k := by
  apply Nat.eq_of_testBit_eq
  intro j
  rw [rowBits_bit, rowBits_bit]
  by_cases hj : j < k
  · simp [hj, h j hj]
  · simp [hj]
/-- a set that has only these bits is made of them -/
theorem rowBits_self {s k : Nat} (h : s < 2 ^ k) : rowBits (fun j => s.testBit j) k = s := by
  apply Nat.eq_of_testBit_eq
  intro j
  rw [rowBits_bit]
  by_cases hj : j < k
  · simp [hj]
  · have : s.testBit j = false := Nat.testBit_lt_two_pow (Nat.lt_of_lt_of_le h (Nat.pow_le_pow_right (by omega) (by omega)))
    simp [hj, this]
/-- the rows of a table that is told cell by cell -/
def tbL (F : Nat → Nat → Bool) (R C : Nat) : List Int := fmap (fun r => ((rowBits (F r) C : Nat) : Int)) R
/-- the same after k cells -/
def tbAt (F : Nat → Nat → Bool) (R C k : Nat) : List Int := fmap (fun i => ((rowBits (F i) (min C (k - i * C)) : Nat) : Int)) R
theorem tbL_len (F : Nat → Nat → Bool) (R C : Nat) : (tbL F R C).length = R := fmap_len _ _
theorem tbAt_len (F : Nat → Nat → Bool) (R C k : Nat) : (tbAt F R C k).length = R := fmap_len _ _
theorem tbAt_zero (F : Nat → Nat → Bool) (R C : Nat) : tbAt F R C 0 = List.replicate R 0 := by
  apply List.ext_getElem?
  intro j
  simp only [tbAt, fmap, List.getElem?_map, List.getElem?_replicate]
  by_cases h : j < R
  · simp [h, rowBits]
  · simp [h]
theorem tbAt_end (F : Nat → Nat → Bool) (R C : Nat) : tbAt F R C (R * C) = tbL F R C := by
  apply List.ext_getElem?
  intro j
  simp only [tbAt, tbL, fmap, List.getElem?_map]
  by_cases h : j < R
  · have h1 : C ≤ R * C - j * C := by
      rw [← Nat.sub_mul]
      exact Nat.le_mul_of_pos_left C (by omega)
    simp [h, Nat.min_eq_left h1]
  · simp [h]
theorem cell_rc {C r c : Nat} (hc : c < C) : (r * C + c) / C = r ∧ (r * C + c) % C = c := by
  have h0 : 0 < C := by omega
  constructor
  · rw [Nat.mul_comm, Nat.mul_add_div h0, Nat.div_eq_of_lt hc]; rfl
  · rw [Nat.mul_comm, Nat.mul_add_mod, Nat.mod_eq_of_lt hc]
theorem cell_eq {C k : Nat} (h : 0 < C) : k = (k / C) * C + k % C := by
  have := Nat.div_add_mod k C
  rw [Nat.mul_comm] at this
  exact this.symm
theorem tbAt_nth (F : Nat → Nat → Bool) {R C r c : Nat} (hr : r < R) (hc : c < C) : nth (tbAt F R C (r * C + c)) r = ((rowBits (F r) c : Nat) : Int) := by
  rw [show nth (tbAt F R C (r * C + c)) r = _ from fmap_nth _ hr, Nat.add_sub_cancel_left, Nat.min_eq_right (by omega)]
theorem tbAt_step (F : Nat → Nat → Bool) {R C r c : Nat} (hr : r < R) (hc : c < C) : (tbAt F R C (r * C + c)).set r ((rowBits (F r) (c+1) : Nat) : Int) = tbAt F R C (r * C + c + 1) := by
  apply List.ext_getElem?
  intro j
  rw [List.getElem?_set, tbAt_len]
  by_cases hj : r = j
  · subst hj
    simp only [if_true, hr, tbAt, fmap, List.getElem?_map, List.getElem?_range hr, Option.map_some]
    rw [show r * C + c + 1 - r * C = c + 1 from by omega, Nat.min_eq_right (by omega)]
  · simp only [hj, if_false, tbAt, fmap, List.getElem?_map]
    by_cases h : j < R
    · have e : min C (r * C + c - j * C) = min C (r * C + c + 1 - j * C) := by
        rcases Nat.lt_or_gt_of_ne hj with h1 | h1
        · have : (r + 1) * C ≤ j * C := Nat.mul_le_mul_right C h1
          rw [Nat.add_mul] at this
          omega
        · have : (j + 1) * C ≤ r * C := Nat.mul_le_mul_right C h1
          rw [Nat.add_mul] at this
          omega
      simp [h, e]
    · simp [h]
theorem tbAt_skip (F : Nat → Nat → Bool) {R C r c : Nat} (hr : r < R) (hc : c < C) (hF : F r c = false) : tbAt F R C (r * C + c + 1) = tbAt F R C (r * C + c) := by
  rw [← tbAt_step F hr hc, rowBits, hF, if_neg (by simp), ← tbAt_nth F hr hc]
  apply List.ext_getElem?
  intro j
  rw [List.getElem?_set, tbAt_len]
  by_cases hj : r = j
  · subst hj
    simp [hr, nth, tbAt_len]
  · simp [hj]

theorem find1_add {α : Type} {f : Nat → Option α} (m : Nat) : ∀ n, find1 f (m + n) = (find1 f m).or (find1 (fun j => f (m + j)) n)
  | 0 => by simp [find1]
  | n+1 => by
    rw [← Nat.add_assoc, find1_succ, find1_add m n, find1_succ, Option.or_assoc]
theorem find1_mul {α : Type} {f : Nat → Option α} (C : Nat) : ∀ R, find1 f (R * C) = find1 (fun r => find1 (fun c => f (r * C + c)) C) R
  | 0 => by simp [find1]
  | R+1 => by
    rw [Nat.add_mul, Nat.one_mul, find1_add, find1_mul C R, find1_succ]
/-- the spec's way to find four cells -/
def fcT (xs : List Int) (r c s d : Nat) : Option (List Int) := if hasB (nth xs s) c then none else some (four r c s d)
def fcSub (xs : List Int) (r s : Nat) : Nat := sub (nth xs s).toNat (nth xs r).toNat
def fcC (xs : List Int) (r c s : Nat) : Option (List Int) := findE (fcSub xs r s) (fcT xs r c s)
def fcB (xs : List Int) (r c : Nat) : Option (List Int) := find1 (fcC xs r c) xs.length
def fcA (xs : List Int) (r : Nat) : Option (List Int) := findE (nth xs r).toNat (fcB xs r)
/-- the first four cells that refuse a biorder -/
def fcF (xs : List Int) : Option (List Int) := find1 (fcA xs) xs.length
def fcL (n m : Int) (xs : List Int) : List Int := if tabB n m xs then (fcF xs).getD [] else []
def fcO (n m : Int) (xs : List Int) : Bool := tabB n m xs && (fcF xs).isSome
/-- the program's way -/
def fcG (xs : List Int) (r c s d : Nat) : Option (List Int) := if hasB (nth xs s) d && !hasB (nth xs r) d && !hasB (nth xs s) c then some (four r c s d) else none
def fcI (xs : List Int) (C k q : Nat) : Option (List Int) := fcG xs (k / C) (k % C) (q / C) (q % C)
def fcP (xs : List Int) (C D k : Nat) : Option (List Int) := if hasB (nth xs (k / C)) (k % C : Nat) then find1 (fcI xs C k) D else none
theorem tab_lt {n m : Int} {xs : List Int} (hp : TabP n m xs) {k : Nat} (hk : k < xs.length) : (nth xs k).toNat < 2 ^ m.toNat := by
  have h1 := hp.pos k hk
  have h2 := hp.lt k hk
  have h3 : ((2 ^ m.toNat : Nat) : Int) = 2 ^ m.toNat := by simp
  omega
theorem fcC_eq {R C : Nat} {xs : List Int} (hp : TabP R C xs) {r s : Nat} (hr : r < xs.length) (hs : s < xs.length) (c : Nat) : fcC xs r c s = find1 (fun d => fcG xs r c s d) C := by
  have hC : C ≤ 10 := by have := hp.c1; omega
  have hlt := tab_lt hp hs
  rw [Int.toNat_natCast] at hlt
  rw [fcC, findE_eq _ (show fcSub xs r s < 2 ^ C from sub_lt hlt) hC]
  refine find1_congr (fun d _ => ?_)
  have e : (fcSub xs r s).testBit d = (hasB (nth xs s) (d : Int) && !hasB (nth xs r) (d : Int)) := by rw [fcSub, testBit_sub]; rfl
  simp only [e, fcG, fcT]
  cases hasB (nth xs s) (d : Int) <;> cases hasB (nth xs r) (d : Int) <;> cases hasB (nth xs s) (c : Int) <;> rfl
theorem fcF_eq {R C : Nat} {xs : List Int} (hp : TabP R C xs) : find1 (fcP xs C (R * C)) (R * C) = fcF xs := by
  have hC : C ≤ 10 := by have := hp.c1; omega
  have hl : xs.length = R := by have := hp.len; omega
  rw [find1_mul, fcF, hl]
  refine find1_congr (fun r hr => ?_)
  have hlt := tab_lt hp (k := r) (by omega)
  rw [Int.toNat_natCast] at hlt
  rw [fcA, findE_eq _ hlt hC]
  refine find1_congr (fun c hc => ?_)
  obtain ⟨e1, e2⟩ := cell_rc (r := r) hc
  rw [fcP, e1, e2]
  show (if (nth xs r).toNat.testBit c = true then _ else _) = _
  congr 1
  rw [find1_mul, fcB, hl]
  refine find1_congr (fun s hs => ?_)
  rw [fcC_eq hp (by omega) (by omega)]
  refine find1_congr (fun d hd => ?_)
  obtain ⟨e3, e4⟩ := cell_rc (r := s) hd
  rw [fcI, e1, e2, e3, e4]
theorem fcG_four {xs : List Int} {r c s d : Nat} {ys : List Int} (h : fcG xs r c s d = some ys) : ys.length = 4 := by
  unfold fcG at h
  split at h
  · simp only [Option.some.injEq] at h; rw [← h]; rfl
  · cases h
theorem fcF_four {R C : Nat} {xs : List Int} (hp : TabP R C xs) {ys : List Int} (h : fcF xs = some ys) : ys.length = 4 := by
  rw [← fcF_eq hp] at h
  obtain ⟨k, _, h1, _⟩ := find1_ex h
  unfold fcP at h1
  split at h1
  · obtain ⟨q, _, h2, _⟩ := find1_ex h1
    exact fcG_four h2
  · cases h1
theorem tab_nat {n m : Int} {xs : List Int} (hp : TabP n m xs) : ∃ R C : Nat, n = (R : Int) ∧ m = (C : Int) := by
  obtain ⟨R, hR⟩ := Int.eq_ofNat_of_zero_le (show 0 ≤ n by have := hp.r0; omega)
  obtain ⟨C, hC⟩ := Int.eq_ofNat_of_zero_le (show 0 ≤ m by have := hp.c0; omega)
  exact ⟨R, C, hR, hC⟩
theorem fcL_len (n m : Int) (xs : List Int) : (fcL n m xs).length ≤ 1048576 := by
  unfold fcL
  split
  · rename_i h
    have hp := tabB_p h
    obtain ⟨R, C, rfl, rfl⟩ := tab_nat hp
    cases h : fcF xs with
    | none => simp
    | some ys => have := fcF_four hp h; simp; omega
  · simp

/-- the cells with a number, from the first numbers on -/
def selTo (C ns : List Int) (p : Int) : Nat → List Int
  | 0 => []
  | k+1 => if nth ns k = p then selTo C ns p k ++ [nth C k] else selTo C ns p k
theorem selTo_app (C l : List Int) (x p : Int) : ∀ k, k ≤ l.length → selTo C (l ++ [x]) p k = selTo C l p k
  | 0, _ => rfl
  | k+1, hk => by
    have e : nth (l ++ [x]) k = nth l k := by simp [nth, List.getD_eq_getElem?_getD, List.getElem?_append_left (show k < l.length by omega)]
    simp only [selTo]
    rw [selTo_app C l x p k (by omega), e]
theorem selTo_snoc (C l : List Int) (x p : Int) : selTo C (l ++ [x]) p (l ++ [x]).length = if x = p then selTo C l p l.length ++ [nth C l.length] else selTo C l p l.length := by
  have e : nth (l ++ [x]) l.length = x := by simp [nth, List.getD_eq_getElem?_getD]
  rw [List.length_append, List.length_singleton]
  simp only [selTo]
  rw [e, selTo_app C l x p _ (Nat.le_refl _)]
theorem selTo_map (C l : List Int) (s : Int → Int) (hs : ∀ x, s (s x) = x) (p : Int) : ∀ k, k ≤ l.length → selTo C (l.map s) (s p) k = selTo C l p k
  | 0, _ => rfl
  | k+1, hk => by
    have e : nth (l.map s) k = s (nth l k) := by
      simp only [nth, List.getD_eq_getElem?_getD, List.getElem?_map, List.getElem?_eq_getElem (show k < l.length by omega), Option.map_some, Option.getD_some]
    simp only [selTo]
    rw [e, selTo_map C l s hs p k (by omega)]
    have h : (s (nth l k) = s p) ↔ (nth l k = p) := ⟨fun h => by have := congrArg s h; rwa [hs, hs] at this, fun h => by rw [h]⟩
    by_cases h1 : nth l k = p
    · rw [if_pos h1, if_pos (h.2 h1)]
    · rw [if_neg h1, if_neg (fun h2 => h1 (h.1 h2))]
/-- are the cells with each number free? -/
def goodP (fr : List Int → Bool) (C : List Int) (l : List Int) : Nat → Bool
  | 0 => true
  | p+1 => goodP fr C l p && fr (selTo C l (p : Int) l.length)
theorem goodP_iff {fr : List Int → Bool} {C l : List Int} : ∀ {m : Nat}, goodP fr C l m = true ↔ ∀ p : Nat, p < m → fr (selTo C l (p : Int) l.length) = true
  | 0 => by simp [goodP]
  | m+1 => by
    rw [goodP, Bool.and_eq_true, goodP_iff]
    exact ⟨fun ⟨h1, h2⟩ p hp => by
      by_cases e : p = m
      · rw [e]; exact h2
      · exact h1 p (by omega), fun h => ⟨fun p hp => h p (by omega), h m (by omega)⟩⟩
/-- the full search -/
def fullS (fr : List Int → Bool) (C : List Int) (lim : Nat) : Nat → List Int → Option (List Int)
  | 0, l => if goodP fr C l lim then some l else none
  | d+1, l => if goodP fr C l lim then find1 (fun x => fullS fr C lim d (l ++ [(x : Int)])) lim else none
theorem find1_no {α : Type} {f : Nat → Option α} {n : Nat} (h : find1 f n = none) {j : Nat} (hj : j < n) : f j = none := by
  rw [find1, List.findSome?_eq_none_iff] at h
  exact h j (by simpa using hj)
theorem find1_isSome {α : Type} {f : Nat → Option α} {n : Nat} : (find1 f n).isSome = true ↔ ∃ x, x < n ∧ (f x).isSome = true := by
  constructor
  · intro h
    obtain ⟨y, hy⟩ := Option.isSome_iff_exists.1 h
    obtain ⟨k, hk, h1, _⟩ := find1_ex hy
    exact ⟨k, hk, by rw [h1]; rfl⟩
  · rintro ⟨x, hx, h⟩
    cases e : find1 f n with
    | some _ => rfl
    | none => rw [find1_no e hx] at h; cases h
/-- two numbers exchanged -/
def swp (a b x : Int) : Int := if x = a then b else if x = b then a else x
theorem swp_swp (a b x : Int) : swp a b (swp a b x) = x := by
  unfold swp
  repeat' split
  all_goals omega
theorem swp_lt {a b lim x : Nat} (ha : a < lim) (hb : b < lim) (hx : x < lim) : ∃ y : Nat, y < lim ∧ swp (a : Int) (b : Int) (x : Int) = (y : Int) := by
  unfold swp
  split
  · exact ⟨b, hb, rfl⟩
  · split
    · exact ⟨a, ha, rfl⟩
    · exact ⟨x, hx, rfl⟩
theorem goodP_swp {fr : List Int → Bool} {C l : List Int} {lim a b : Nat} (ha : a < lim) (hb : b < lim) (h : goodP fr C l lim = true) : goodP fr C (l.map (swp a b)) lim = true := by
  rw [goodP_iff] at h ⊢
  intro p hp
  obtain ⟨y, hy, e⟩ := swp_lt ha hb hp
  have := selTo_map C l (swp a b) (swp_swp _ _) (y : Int) l.length (Nat.le_refl _)
  rw [← e, swp_swp] at this
  rw [List.length_map, this, e]
  exact h y hy
theorem fullS_swp {fr : List Int → Bool} {C : List Int} {lim a b : Nat} (ha : a < lim) (hb : b < lim) : ∀ (d : Nat) (l : List Int), (fullS fr C lim d l).isSome = true → (fullS fr C lim d (l.map (swp a b))).isSome = true
  | 0, l, h => by
    rw [fullS] at h ⊢
    cases e : goodP fr C l lim
    · rw [e, if_neg (by simp)] at h; cases h
    · rw [goodP_swp ha hb e, if_pos rfl]; rfl
  | d+1, l, h => by
    rw [fullS] at h ⊢
    cases e : goodP fr C l lim
    · rw [e, if_neg (by simp)] at h; cases h
    · rw [e, if_pos rfl] at h
      rw [goodP_swp ha hb e, if_pos rfl]
      rw [find1_isSome] at h ⊢
      obtain ⟨x, hx, h⟩ := h
      obtain ⟨y, hy, e⟩ := swp_lt ha hb hx
      refine ⟨y, hy, ?_⟩
      have := fullS_swp ha hb d _ h
      rw [List.map_append, List.map_cons, List.map_nil, e] at this
      exact this
theorem unTo_gt {l : List Int} : ∀ (k i : Nat), k ≤ l.length → i < k → (∀ j, j < k → 0 ≤ nth l j) → nth l i < ((unTo l k : Nat) : Int)
  | k+1, i, hk, hi, h0 => by
    have := h0 k (by omega)
    simp only [unTo]
    by_cases e : i = k
    · subst e; omega
    · have := unTo_gt k i (by omega) (by omega) (fun j hj => h0 j (by omega)); omega
theorem map_fix {s : Int → Int} {l : List Int} (h : ∀ i, i < l.length → s (nth l i) = nth l i) : l.map s = l := by
  apply List.ext_getElem (by simp)
  intro i h1 h2
  have := h i h2
  rw [nth_get _ _ h2] at this
  rw [List.getElem_map, this]
theorem goodP_snoc {fr : List Int → Bool} {C l : List Int} {lim x : Nat} (hx : x < lim) (h : goodP fr C l lim = true) : goodP fr C (l ++ [(x : Int)]) lim = fr (selTo C (l ++ [(x : Int)]) (x : Int) (l ++ [(x : Int)]).length) := by
  cases e : fr (selTo C (l ++ [(x : Int)]) (x : Int) (l ++ [(x : Int)]).length)
  · cases e2 : goodP fr C (l ++ [(x : Int)]) lim
    · rfl
    · rw [goodP_iff] at e2; rw [e2 x hx] at e; cases e
  · rw [goodP_iff] at h ⊢
    intro p hp
    by_cases ep : x = p
    · rw [← ep]; exact e
    · rw [selTo_snoc, if_neg (by omega)]; exact h p hp
theorem nth_last (l : List Int) (x : Int) : nth (l ++ [x]) ((l ++ [x]).length - 1) = x := by
  rw [List.length_append, List.length_singleton, Nat.add_sub_cancel]
  simp [nth, List.getD_eq_getElem?_getD]
theorem full_cn {fr : List Int → Bool} {C : List Int} {lim : Nat} : ∀ (d : Nat) (l : List Int), LtL lim l → goodP fr C l lim = true → fullS fr C lim d l = cnS (fun L => fr (selTo C L (nth L (L.length - 1)) L.length)) lim d l
  | 0, l, _, hg => by rw [fullS, hg, if_pos rfl]; rfl
  | d+1, l, hl, hg => by
    rw [fullS, hg, if_pos rfl]
    simp only [cnS]
    have hstep : ∀ x, x < lim → fullS fr C lim d (l ++ [(x : Int)]) = (if fr (selTo C (l ++ [(x : Int)]) (nth (l ++ [(x : Int)]) ((l ++ [(x : Int)]).length - 1)) (l ++ [(x : Int)]).length) then cnS (fun L => fr (selTo C L (nth L (L.length - 1)) L.length)) lim d (l ++ [(x : Int)]) else none) := by
      intro x hx
      rw [nth_last]
      have hgs := goodP_snoc hx hg
      cases e : fr (selTo C (l ++ [(x : Int)]) (x : Int) (l ++ [(x : Int)]).length)
      · rw [e] at hgs
        rw [if_neg (by simp)]
        cases d <;> rw [fullS, hgs, if_neg (by simp)]
      · rw [e] at hgs
        rw [if_pos rfl]
        exact full_cn d _ (hl.snoc hx) hgs
    rw [← find1_congr (f := fun x => fullS fr C lim d (l ++ [(x : Int)])) (fun x hx => hstep x (by omega))]
    rcases Nat.lt_or_ge (unTo l l.length + 1) lim with hU | hU
    · rw [show min lim (unTo l l.length + 1) = unTo l l.length + 1 by omega]
      obtain ⟨m, hm⟩ : ∃ m, lim = (unTo l l.length + 1) + m := ⟨lim - (unTo l l.length + 1), by omega⟩
      conv => lhs; arg 2; rw [hm]
      rw [find1_add]
      cases e : find1 (fun x => fullS fr C lim d (l ++ [(x : Int)])) (unTo l l.length + 1) with
      | some _ => rfl
      | none =>
        rw [Option.none_or]
        apply find1_none
        intro j hj
        cases e2 : fullS fr C lim d (l ++ [((unTo l l.length + 1 + j : Nat) : Int)]) with
        | none => rfl
        | some y =>
          exfalso
          have h1 : (fullS fr C lim d (l ++ [((unTo l l.length + 1 + j : Nat) : Int)])).isSome = true := by rw [e2]; rfl
          have h2 := fullS_swp (a := unTo l l.length) (b := unTo l l.length + 1 + j) (by omega) (by omega) d _ h1
          have hfix : l.map (swp ((unTo l l.length : Nat) : Int) ((unTo l l.length + 1 + j : Nat) : Int)) = l := map_fix (fun i hi => by
            have := unTo_gt l.length i (Nat.le_refl _) hi (fun j hj => (hl j hj).1)
            unfold swp
            rw [if_neg (by omega), if_neg (by omega)])
          rw [List.map_append, hfix, List.map_cons, List.map_nil] at h2
          have h3 : swp ((unTo l l.length : Nat) : Int) ((unTo l l.length + 1 + j : Nat) : Int) ((unTo l l.length + 1 + j : Nat) : Int) = ((unTo l l.length : Nat) : Int) := by
            unfold swp; rw [if_neg (by omega), if_pos rfl]
          rw [h3] at h2
          have h4 := find1_no e (show unTo l l.length < unTo l l.length + 1 by omega)
          rw [h4] at h2; cases h2
    · rw [show min lim (unTo l l.length + 1) = lim by omega]

/-- the search that tries every number below the limit -/
def nuS (F : List Int → Bool) (lim : Nat) : Nat → List Int → Option (List Int)
  | 0, l => some l
  | d+1, l => find1 (fun x => if F (l ++ [(x : Int)]) then nuS F lim d (l ++ [(x : Int)]) else none) lim
theorem nuS_len {F : List Int → Bool} {lim : Nat} : ∀ {d : Nat} {l ys : List Int}, nuS F lim d l = some ys → ys.length = l.length + d
  | 0, l, ys, h => by simp only [nuS, Option.some.injEq] at h; rw [h]; rfl
  | d+1, l, ys, h => by
    simp only [nuS] at h
    obtain ⟨x, _, h1, _⟩ := find1_ex h
    split at h1
    · have := nuS_len h1
      rw [this, List.length_append]; simp; omega
    · cases h1
theorem nuS_swp {F : List Int → Bool} {lim a b : Nat} (ha : a < lim) (hb : b < lim) (hF : ∀ L : List Int, F (L.map (swp (a : Int) (b : Int))) = F L) : ∀ (d : Nat) (l : List Int), (nuS F lim d l).isSome = true → (nuS F lim d (l.map (swp a b))).isSome = true
  | 0, l, h => rfl
  | d+1, l, h => by
    rw [nuS, find1_isSome] at h ⊢
    obtain ⟨x, hx, h⟩ := h
    obtain ⟨y, hy, e⟩ := swp_lt ha hb hx
    refine ⟨y, hy, ?_⟩
    have hmap : (l ++ [(x : Int)]).map (swp (a : Int) (b : Int)) = l.map (swp (a : Int) (b : Int)) ++ [(y : Int)] := by
      rw [List.map_append, List.map_cons, List.map_nil, e]
    have hf := hF (l ++ [(x : Int)])
    rw [hmap] at hf
    cases e1 : F (l ++ [(x : Int)])
    · rw [e1, if_neg (by simp)] at h; cases h
    · rw [e1, if_pos rfl] at h
      rw [hf, e1, if_pos rfl, ← hmap]
      exact nuS_swp ha hb hF d _ h
theorem nu_cn {F : List Int → Bool} {lim : Nat} (hF : ∀ (a b : Nat) (L : List Int), F (L.map (swp (a : Int) (b : Int))) = F L) : ∀ (d : Nat) (l : List Int), LtL lim l → nuS F lim d l = cnS F lim d l
  | 0, l, _ => rfl
  | d+1, l, hl => by
    rw [nuS, cnS]
    have hstep : ∀ x, x < lim → (if F (l ++ [(x : Int)]) then nuS F lim d (l ++ [(x : Int)]) else none) = (if F (l ++ [(x : Int)]) then cnS F lim d (l ++ [(x : Int)]) else none) := by
      intro x hx
      rw [nu_cn hF d _ (hl.snoc hx)]
    rw [← find1_congr (f := fun x => if F (l ++ [(x : Int)]) then nuS F lim d (l ++ [(x : Int)]) else none) (fun x hx => hstep x (by omega))]
    rcases Nat.lt_or_ge (unTo l l.length + 1) lim with hU | hU
    · rw [show min lim (unTo l l.length + 1) = unTo l l.length + 1 by omega]
      obtain ⟨m, hm⟩ : ∃ m, lim = (unTo l l.length + 1) + m := ⟨lim - (unTo l l.length + 1), by omega⟩
      conv => lhs; arg 2; rw [hm]
      rw [find1_add]
      cases e : find1 (fun x => if F (l ++ [(x : Int)]) then nuS F lim d (l ++ [(x : Int)]) else none) (unTo l l.length + 1) with
      | some _ => rfl
      | none =>
        rw [Option.none_or]
        apply find1_none
        intro j hj
        have hfix : l.map (swp ((unTo l l.length : Nat) : Int) ((unTo l l.length + 1 + j : Nat) : Int)) = l := map_fix (fun i hi => by
          have := unTo_gt l.length i (Nat.le_refl _) hi (fun j hj => (hl j hj).1)
          unfold swp
          rw [if_neg (by omega), if_neg (by omega)])
        have h3 : swp ((unTo l l.length : Nat) : Int) ((unTo l l.length + 1 + j : Nat) : Int) ((unTo l l.length + 1 + j : Nat) : Int) = ((unTo l l.length : Nat) : Int) := by
          unfold swp; rw [if_neg (by omega), if_pos rfl]
        have hmap : (l ++ [((unTo l l.length + 1 + j : Nat) : Int)]).map (swp ((unTo l l.length : Nat) : Int) ((unTo l l.length + 1 + j : Nat) : Int)) = l ++ [((unTo l l.length : Nat) : Int)] := by
          rw [List.map_append, hfix, List.map_cons, List.map_nil, h3]
        have h4 := find1_no e (show unTo l l.length < unTo l l.length + 1 by omega)
        have h5 := hF (unTo l l.length) (unTo l l.length + 1 + j) (l ++ [((unTo l l.length + 1 + j : Nat) : Int)])
        rw [hmap] at h5
        cases e1 : F (l ++ [((unTo l l.length + 1 + j : Nat) : Int)])
        · rw [if_neg (by simp)]
        · rw [if_pos rfl]
          rw [h5, e1, if_pos rfl] at h4
          cases e2 : nuS F lim d (l ++ [((unTo l l.length + 1 + j : Nat) : Int)]) with
          | none => rfl
          | some y =>
            exfalso
            have h1 : (nuS F lim d (l ++ [((unTo l l.length + 1 + j : Nat) : Int)])).isSome = true := by rw [e2]; rfl
            have h2 := nuS_swp (a := unTo l l.length) (b := unTo l l.length + 1 + j) (by omega) (by omega) (hF _ _) d _ h1
            rw [hmap, h4] at h2; cases h2
    · rw [show min lim (unTo l l.length + 1) = lim by omega]

/-- the set of the indices below k of the lists that have i -/
def belowTo (xs : List Int) (i : Int) : Nat → Nat
  | 0 => 0
  | k+1 => if hasB (nth xs k) i then belowTo xs i k ||| 2 ^ k else belowTo xs i k
theorem belowTo_lt (xs : List Int) (i : Int) : ∀ k, belowTo xs i k < 2 ^ k
  | 0 => by simp [belowTo]
  | k+1 => by
    have h := belowTo_lt xs i k
    have h2 : 2 ^ k < 2 ^ (k+1) := two_lt (by omega)
    simp only [belowTo]
    split
    · exact or_lt (by omega) h2
    · omega
theorem belowTo_small (xs : List Int) (i : Int) {k : Nat} (h : k ≤ 10) : belowTo xs i k < 1024 := by
  have h1 := belowTo_lt xs i k
  have h2 : 2 ^ k ≤ 2 ^ 10 := Nat.pow_le_pow_right (by omega) h
  omega
theorem belowTo_bit (xs : List Int) (i : Int) (j : Nat) : ∀ k, (belowTo xs i k).testBit j = (decide (j < k) && hasB (nth xs j) i)
  | 0 => by simp [belowTo]
  | k+1 => by
    have h := belowTo_bit xs i j k
    simp only [belowTo]
    by_cases hjk : j = k
    · subst hjk
      cases hb : hasB (nth xs j) i
      · simp [h]
      · simp [Nat.testBit_or, testBit_two]
    · have e : decide (j < k + 1) = decide (j < k) := by
        rw [decide_eq_decide]; omega
      rw [e, ← h]
      have hkj : ¬ k = j := fun e => hjk e.symm
      cases hb : hasB (nth xs k) i <;> simp [Nat.testBit_or, testBit_two, hkj]

/-- the set of the elements that are indifferent to k -/
def freeN (xs : List Int) (k : Nat) : Nat := sub (2 ^ xs.length - 1) (((nth xs k).toNat ||| belowTo xs k xs.length) ||| 2 ^ k)
theorem free_val {n : Int} {xs : List Int} (hp : RelP n xs) {k : Nat} (hk : k < xs.length) :
    bits .andNot .i64 (wrap64 (wrap64 (2 ^ n.toNat) - 1)) (bits .or .i64 (bits .or .i64 (nth xs k) ((belowTo xs k xs.length : Nat) : Int)) (wrap64 (2 ^ k))) = ((freeN xs k : Nat) : Int) := by
  have hl := hp.len
  have hn := hp.n1
  have h0 := hp.n0
  have e : n.toNat = xs.length := by omega
  have hs := hp.small k hk
  have h1 := hp.pos k hk
  have hb := belowTo_small xs k (k := xs.length) (by omega)
  have hpw := pow10 (n := xs.length) (by omega)
  rw [full_eq h0 hn, e]
  rw [or_i h1 (by omega) (by omega) (by omega)]
  have ho : (nth xs k).toNat ||| (belowTo xs k xs.length) < 2 ^ 10 := or_lt (by omega) (by omega)
  rw [show (((belowTo xs k xs.length : Nat) : Int)).toNat = belowTo xs k xs.length from rfl]
  rw [or_bit (by omega) (by omega)]
  have ho2 : ((nth xs k).toNat ||| (belowTo xs k xs.length)) ||| 2 ^ k < 2 ^ 10 := or_lt ho (two_lt (by omega))
  rw [sub_i (by omega) (by omega) (by omega) (by omega)]
  have e2 : ((2:Int) ^ xs.length - 1).toNat = 2 ^ xs.length - 1 := by
    have : ((2 ^ xs.length : Nat) : Int) = (2 : Int) ^ xs.length := by simp
    omega
  rw [e2]
  rfl
theorem free_val2 {n : Int} {xs : List Int} (hp : RelP n xs) {k : Nat} (hk : k < xs.length) :
    bits .andNot .i64 (2 ^ n.toNat - 1) (bits .or .i64 (bits .or .i64 (nth xs k) ((belowTo xs k xs.length : Nat) : Int)) (wrap64 (2 ^ k))) = ((freeN xs k : Nat) : Int) := by
  rw [← free_val hp hk, full_eq hp.n0 hp.n1]

/-- has no element before the last one of a list of numbers its number, being indifferent to it? -/
def apE (xs L : List Int) (i : Nat) : Bool := !(nth L i == nth L (L.length - 1) && (freeN xs (L.length - 1)).testBit i)
def apB (xs L : List Int) : Bool := (List.range (L.length - 1)).all (apE xs L)
theorem apB_iff {xs L : List Int} : apB xs L = true ↔ ∀ i, i < L.length - 1 → apE xs L i = true := by simp [apB]
theorem apB_no {xs L : List Int} {i : Nat} (hi : i < L.length - 1) (h : apE xs L i = false) : apB xs L = false := by
  rw [← Bool.not_eq_true, apB_iff]
  intro h2
  rw [h2 i hi] at h; cases h
theorem nth_map {s : Int → Int} {l : List Int} {k : Nat} (h : k < l.length) : nth (l.map s) k = s (nth l k) := by
  simp only [nth, List.getD_eq_getElem?_getD, List.getElem?_map, List.getElem?_eq_getElem h, Option.map_some, Option.getD_some]
theorem apB_swp (xs : List Int) (a b : Nat) (L : List Int) : apB xs (L.map (swp (a : Int) (b : Int))) = apB xs L := by
  rw [Bool.eq_iff_iff, apB_iff, apB_iff, List.length_map]
  have h : ∀ i, i < L.length - 1 → apE xs (L.map (swp (a : Int) (b : Int))) i = apE xs L i := by
    intro i hi
    simp only [apE, List.length_map]
    rw [nth_map (by omega), nth_map (by omega)]
    have : (swp (a : Int) (b : Int) (nth L i) == swp (a : Int) (b : Int) (nth L (L.length - 1))) = (nth L i == nth L (L.length - 1)) := by
      rw [Bool.eq_iff_iff, beq_iff_eq, beq_iff_eq]
      exact ⟨fun h => by have := congrArg (swp (a : Int) (b : Int)) h; rwa [swp_swp, swp_swp] at this, fun h => by rw [h]⟩
    rw [this]
  exact ⟨fun h2 i hi => by rw [← h i hi]; exact h2 i hi, fun h2 i hi => by rw [h i hi]; exact h2 i hi⟩
theorem freeN_small {n : Int} {xs : List Int} (hp : RelP n xs) (k : Nat) : freeN xs k < 1024 := by
  have hl : xs.length ≤ 10 := by have := hp.len; have := hp.n1; omega
  have h1 : 2 ^ xs.length - 1 < 2 ^ xs.length := by have := Nat.two_pow_pos xs.length; omega
  have h2 := sub_lt (a := 2 ^ xs.length - 1) (b := ((nth xs k).toNat ||| belowTo xs k xs.length) ||| 2 ^ k) h1
  have h3 : 2 ^ xs.length ≤ 2 ^ 10 := Nat.pow_le_pow_right (by omega) hl
  unfold freeN
  omega

theorem and_i {a b : Int} (ha : 0 ≤ a) (ha1 : a < 9223372036854775808) (hb : 0 ≤ b) (hb1 : b < 9223372036854775808) : bits .and .i64 a b = ((a.toNat &&& b.toNat : Nat) : Int) := by
  obtain ⟨A, rfl⟩ := Int.eq_ofNat_of_zero_le ha
  obtain ⟨B, rfl⟩ := Int.eq_ofNat_of_zero_le hb
  exact and_nat A B (by omega) (by omega)

/-- the first one of the longest lists whose first element is below k, if the rest behind i is told -/
def bestTo (rest : Nat → List Int) (S : Nat) : Nat → List Int
  | 0 => []
  | k+1 => if S.testBit k then (if (bestTo rest S k).length ≤ (rest k).length then (k : Int) :: rest k else bestTo rest S k) else bestTo rest S k
theorem bestTo_congr {r r' : Nat → List Int} {S : Nat} : ∀ k, (∀ i, i < k → S.testBit i = true → r i = r' i) → bestTo r S k = bestTo r' S k
  | 0, _ => rfl
  | k+1, h => by
    have ih := bestTo_congr k (fun i hi => h i (by omega))
    simp only [bestTo]
    cases hb : S.testBit k
    · simp [ih]
    · rw [ih, h k (by omega) hb]
theorem bestTo_len {r : Nat → List Int} {S d : Nat} : ∀ k, (∀ i, i < k → (r i).length ≤ d) → (bestTo r S k).length ≤ d + 1
  | 0, _ => by simp [bestTo]
  | k+1, h => by
    have ih := bestTo_len (S := S) k (fun i hi => h i (by omega))
    have h2 := h k (by omega)
    simp only [bestTo]
    split
    · split
      · simp; omega
      · exact ih
    · exact ih
def lngD (fl : List Int) : Nat → Nat → List Int
  | 0, _ => []
  | d+1, S => bestTo (fun i => lngD fl d (S &&& (nth fl i).toNat)) S fl.length
theorem lngD_len (fl : List Int) : ∀ d S, (lngD fl d S).length ≤ d
  | 0, _ => Nat.le_refl _
  | d+1, S => bestTo_len _ (fun i _ => lngD_len fl d _)
/-- the first one of the longest lists of elements of S in which what comes behind i is in fl at i -/
def lng (fl : List Int) (S : Nat) : List Int := lngD fl (S+1) S
theorem lng_len (fl : List Int) (S : Nat) : (lng fl S).length ≤ S + 1 := lngD_len fl _ _
/-- no element comes behind itself -/
structure Flw (fl : List Int) : Prop where
  len : fl.length ≤ 10
  ok : ∀ i, i < fl.length → 0 ≤ nth fl i ∧ nth fl i < 1024 ∧ (nth fl i).toNat.testBit i = false
theorem and_less {S x i : Nat} (hS : S.testBit i = true) (hx : x.testBit i = false) : S &&& x < S := by
  have h1 : S &&& x ≤ S := Nat.and_le_left
  rcases Nat.lt_or_eq_of_le h1 with h | h
  · exact h
  · have : (S &&& x).testBit i = true := by rw [h]; exact hS
    rw [Nat.testBit_and, hx] at this
    simp at this
theorem lngD_eq {fl : List Int} (hf : Flw fl) : ∀ (S d : Nat), S < d → lngD fl d S = lng fl S := by
  intro S
  induction S using Nat.strongRecOn with
  | _ S ih =>
    intro d hd
    obtain ⟨e, rfl⟩ : ∃ e, d = e + 1 := ⟨d - 1, by omega⟩
    show bestTo _ S fl.length = bestTo _ S fl.length
    refine bestTo_congr _ (fun i hi hb => ?_)
    have hl := and_less hb (hf.ok i hi).2.2
    rw [ih _ hl e (by omega), ih _ hl S hl]
theorem lng_eq {fl : List Int} (hf : Flw fl) (S : Nat) : lng fl S = bestTo (fun i => lng fl (S &&& (nth fl i).toNat)) S fl.length := by
  show bestTo _ S fl.length = _
  refine bestTo_congr _ (fun i hi hb => ?_)
  exact lngD_eq hf _ _ (and_less hb (hf.ok i hi).2.2)
def stepL (rest : Nat → List Int) (best : List Int) (x : Int) : List Int := if best.length ≤ (rest x.toNat).length then x :: rest x.toNat else best
theorem fold_best (rest : Nat → List Int) (S : Nat) : ∀ k, (elemsTo S k).foldl (stepL rest) [] = bestTo rest S k
  | 0 => rfl
  | k+1 => by
    have ih := fold_best rest S k
    simp only [elemsTo, bestTo]
    cases hb : S.testBit k
    · simpa using ih
    · rw [if_pos rfl, if_pos rfl, List.foldl_append, ih]
      rfl
theorem fold_take {f : List Int → Int → List Int} {es : List Int} {m : Nat} (h : m < es.length) : (es.take (m+1)).foldl f [] = f ((es.take m).foldl f []) (nth es m) := by
  rw [List.take_succ_eq_append_getElem h, List.foldl_append, nth_get _ _ h]; rfl

def okAtB (xs : List Int) (k : Nat) : Bool := !hasB (nth xs k) k && (List.range xs.length).all (fun j => !hasB (nth xs k) j || sub (nth xs j).toNat (nth xs k).toNat == 0)
/-- is it an order? -/
def ordB (n : Int) (xs : List Int) : Bool := relB n xs && (List.range xs.length).all (okAtB xs)
theorem okAtB_iff {xs : List Int} {k : Nat} : okAtB xs k = true ↔ hasB (nth xs k) k = false ∧ ∀ j, j < xs.length → hasB (nth xs k) j = true → sub (nth xs j).toNat (nth xs k).toNat = 0 := by
  simp only [okAtB, Bool.and_eq_true, Bool.not_eq_true', List.all_eq_true, List.mem_range, Bool.or_eq_true, beq_iff_eq]
  constructor
  · rintro ⟨h1, h2⟩
    exact ⟨h1, fun j hj hb => (h2 j hj).resolve_left (by simp [hb])⟩
  · rintro ⟨h1, h2⟩
    refine ⟨h1, fun j hj => ?_⟩
    cases hb : hasB (nth xs k) j
    · exact .inl rfl
    · exact .inr (h2 j hj hb)
theorem ordB_iff {n : Int} {xs : List Int} : ordB n xs = true ↔ relB n xs = true ∧ ∀ k, k < xs.length → okAtB xs k = true := by
  simp [ordB]
theorem ordB_no {n : Int} {xs : List Int} {k : Nat} (hk : k < xs.length) (h : okAtB xs k = false) : ordB n xs = false := by
  rw [← Bool.not_eq_true, ordB_iff]
  rintro ⟨_, h2⟩
  rw [h2 k hk] at h
  cases h
theorem okAtB_has {xs : List Int} {k : Nat} (h : hasB (nth xs k) k = true) : okAtB xs k = false := by
  simp [okAtB, h]
theorem okAtB_sub {xs : List Int} {k j : Nat} (hj : j < xs.length) (h : hasB (nth xs k) j = true) (h2 : sub (nth xs j).toNat (nth xs k).toNat ≠ 0) : okAtB xs k = false := by
  rw [← Bool.not_eq_true, okAtB_iff]
  rintro ⟨_, h3⟩
  exact h2 (h3 j hj h)
theorem sub_zero {a b : Nat} : sub a b = 0 ↔ ∀ i, a.testBit i = true → b.testBit i = true := by
  constructor
  · intro h i hi
    have := testBit_sub a b i
    rw [h, hi] at this
    simpa using this.symm
  · intro h
    apply Nat.eq_of_testBit_eq
    intro i
    rw [testBit_sub]
    cases ha : a.testBit i
    · simp
    · simp [h i ha]
theorem has_lt {n : Int} {xs : List Int} (hp : RelP n xs) {k : Nat} (hk : k < xs.length) {j : Nat} (h : hasB (nth xs k) j = true) : j < xs.length := by
  rcases Nat.lt_or_ge j xs.length with h' | h'
  · exact h'
  · have h1 := hp.lt k hk
    have h0 := hp.pos k hk
    have h2 : (nth xs k).toNat < 2 ^ j := by
      have : (2 : Nat) ^ xs.length ≤ 2 ^ j := Nat.pow_le_pow_right (by omega) h'
      have e : ((2 ^ xs.length : Nat) : Int) = (2 : Int) ^ xs.length := by simp
      omega
    simp only [hasB] at h
    rw [Int.toNat_natCast, Nat.testBit_lt_two_pow h2] at h
    cases h

theorem ord_rel {n : Int} {xs : List Int} (h : ordB n xs = true) : RelP n xs := relB_p (ordB_iff.1 h).1

/-- the elements that may come behind i in an antichain -/
def latE (xs : List Int) (i : Nat) : Int := ((sub (freeN xs i) (2 ^ i - 1) : Nat) : Int)
def lats (xs : List Int) : List Int := fmap (latE xs) xs.length
theorem lats_len (xs : List Int) : (lats xs).length = xs.length := fmap_len _ _
theorem freeN_lt {xs : List Int} (h : xs.length ≤ 10) (i : Nat) : freeN xs i < 1024 := by
  have h1 : 2 ^ xs.length - 1 < 2 ^ 10 := by
    have : 2 ^ xs.length ≤ 2 ^ 10 := Nat.pow_le_pow_right (by omega) h
    have := Nat.two_pow_pos xs.length
    omega
  exact sub_lt h1
theorem lats_flw {xs : List Int} (h : xs.length ≤ 10) : Flw (lats xs) :=
  ⟨by rw [lats_len]; exact h, fun i hi => by
    rw [lats_len] at hi
    have e : nth (lats xs) i = latE xs i := fmap_nth _ hi
    have h2 : sub (freeN xs i) (2 ^ i - 1) < 2 ^ 10 := sub_lt (freeN_lt h i)
    rw [e]
    refine ⟨by unfold latE; omega, by unfold latE; omega, ?_⟩
    unfold latE
    rw [Int.toNat_natCast, testBit_sub, freeN, testBit_sub]
    simp [Nat.testBit_or, testBit_two]⟩
theorem lats_nth {xs : List Int} {i : Nat} (hi : i < xs.length) : (nth (lats xs) i).toNat = sub (freeN xs i) (2 ^ i - 1) := by
  rw [show nth (lats xs) i = latE xs i from fmap_nth _ hi, latE, Int.toNat_natCast]
theorem sub_and (S f m : Nat) : sub (S &&& f) m = S &&& sub f m := by
  apply Nat.eq_of_testBit_eq
  intro i
  rw [testBit_sub, Nat.testBit_and, Nat.testBit_and, testBit_sub, Bool.and_assoc]
/-- what LargestAntichain hands back -/
def antL (n : Int) (xs : List Int) : List Int := if ordB n xs then lng (lats xs) (2 ^ xs.length - 1) else []
theorem antL_len (n : Int) (xs : List Int) : (antL n xs).length ≤ 1048576 := by
  unfold antL
  split
  · rename_i h
    have hp := ord_rel h
    have := lng_len (lats xs) (2 ^ xs.length - 1)
    have h2 : 2 ^ xs.length ≤ 2 ^ 10 := Nat.pow_le_pow_right (by omega) (by have := hp.len; have := hp.n1; omega)
    omega
  · simp
theorem full_nat {n : Nat} (h : n ≤ 10) : ((2 : Int) ^ n - 1) = ((2 ^ n - 1 : Nat) : Int) := by
  have h1 := Nat.two_pow_pos n
  have e : ((2 ^ n : Nat) : Int) = (2 : Int) ^ n := by simp
  omega

/-- what stands behind the search -/
def CnPost (w0 : World) (B g cap n L : Nat) (l : List Int) (r : Option (List Int)) (e : Ending) (w' : World) : Prop :=
  Below B w0 w' ∧ ((∃ ys, r = some ys ∧ ys.length = L ∧ e = .returned (.tuple #[.slice (some ⟨g, 0, none⟩) L cap, .bool true]) ∧ OwnI w' B (.slice (some ⟨g, 0, none⟩) L cap) ys) ∨ (r = none ∧ e = .returned (.tuple #[.slice none 0 0, .bool false]) ∧ OwnI w' B (.slice (some ⟨g, 0, none⟩) n cap) l))

def chO (n : Int) (xs : List Int) : Option (List Int) := if ordB n xs then cnS (apB xs) (antL n xs).length xs.length [] else none
def chV (n : Int) (xs : List Int) : List Int := (chO n xs).getD []
def chB (n : Int) (xs : List Int) : Bool := (chO n xs).isSome
theorem chV_len (n : Int) (xs : List Int) : (chV n xs).length ≤ 1048576 := by
  unfold chV
  cases h : chO n xs with
  | none => simp
  | some ys =>
    rw [chO] at h
    split at h
    · rename_i hok
      have h1 := cnS_len h
      have hp := ord_rel hok
      have h2 := hp.len
      have h3 := hp.n1
      simp only [Option.getD_some]
      simp at h1
      omega
    · cases h
theorem antL_100 (n : Int) (xs : List Int) : (antL n xs).length ≤ 2000 := by
  unfold antL
  split
  · rename_i h
    have hp := ord_rel h
    have := lng_len (lats xs) (2 ^ xs.length - 1)
    have h2 : 2 ^ xs.length ≤ 2 ^ 10 := Nat.pow_le_pow_right (by omega) (by have := hp.len; have := hp.n1; omega)
    omega
  · simp

/-- what a search hands back -/
def FsPost (W : World) (B : Nat) (r : Option (List Int)) (e : Ending) (w' : World) : Prop :=
  Below W.heap.size W w' ∧ ∃ a' cap', e = .returned (.tuple #[.slice a' (r.getD []).length cap', .bool r.isSome]) ∧ OwnI w' B (.slice a' (r.getD []).length cap') (r.getD [])

theorem orHas_any (s i : Int) (w : World) (h0 : 0 ≤ s) (h1 : s ≤ 9223372036854775807) (hi : 0 ≤ i) :
    Calls Try.prog 77 #[.int .i64 s, .int .i64 i] w fun e w' => e = .returned (.bool (hasB s i)) ∧ w = w' := by
  have H := Lib.hid (has_mod h0 h1 hi)
  go_enter Try.func77, Try.ntmps77
  go_wp2
  go_ret
  exact ⟨ret_bool H.out, rfl⟩

theorem orBelow_any (n : Int) (a : Option Addr) (xs : List Int) (cap : Nat) (i : Int) (w : World) (hx : Rd w a xs) (hr : RelP n xs) (hi : 0 ≤ i) :
    Calls Try.prog 99 #[.agg #[.int .i64 n, .slice a xs.length cap], .int .i64 i] w fun e w' => e = .returned (.int .i64 (belowTo xs i xs.length)) ∧ Below w.heap.size w w' := by
  have hx1 := hx.alloc (.cells #[.int .i64 n, .slice a xs.length cap] 28)
  have hn : xs.length ≤ 10 := by have := hr.len; have := hr.n1; omega
  go_enter Try.func99, Try.ntmps99
  go_wp2_with fail
  go_loop [5, 11] (fun s i' => ∃ k : Nat, k ≤ xs.length ∧ i' = .int .i64 k ∧ s = .int .i64 (belowTo xs i k)) (fun _ i => xs.length - (intOf i).toNat)
  case atStart => exact ⟨0, Nat.zero_le _, rfl, rfl⟩
  case round =>
    obtain ⟨k, hk, rfl, rfl⟩ := hrel
    by_cases hlt : k < xs.length
    · obtain ⟨b, off, rfl, hbl, hc⟩ := hx1.cell k hlt
      obtain ⟨b', off', e', hbl', hc'⟩ := hx.cell k hlt
      simp only [Option.some.injEq, Addr.mk.injEq, and_true] at e'
      obtain ⟨rfl, rfl⟩ := e'
      have hpk := hr.pos k hlt
      have hsk : nth xs k ≤ 9223372036854775807 := by have := hr.small k hlt; omega
      have hbs := belowTo_small xs i (k := k) (by omega)
      have hor := Lib.hid (or_bit (b := belowTo xs i k) (k := k) (by omega) (by omega))
      clear hbs
      cases hin : hasB (nth xs k) i
      · go_wp2_with (go_at_call 77; refine (orHas_any _ _ _ hpk hsk hi).mono ?_; rintro e w' ⟨rfl, rfl⟩)
        go_round
        case rel => exact ⟨k + 1, by omega, by go_num, by simp [belowTo, hin]⟩
        case measure => simp [intOf]; omega
      · go_wp2_with (go_at_call 77; refine (orHas_any _ _ _ hpk hsk hi).mono ?_; rintro e w' ⟨rfl, rfl⟩)
        go_round
        case rel => exact ⟨k + 1, by omega, by go_num, val_int (by rw [hor.out]; simp [belowTo, hin])⟩
        case measure => simp [intOf]; omega
    · obtain rfl : k = xs.length := by omega
      go_wp2_with fail
      go_ret
      exact ⟨rfl, (by repeat (first | exact Below.refl _ _ | assumption | refine Below.alloc ?_ (by first | exact Nat.le_refl _ | (simp only [World.size_alloc, World.size_setCell, World.size_drew]; omega) | omega) _ | refine Below.setCell ?_ (by first | exact Nat.le_refl _ | (simp only [World.size_alloc, World.size_setCell, World.size_drew]; omega) | omega) _ | refine Below.drew ?_))⟩

theorem orFree_any (n : Int) (a : Option Addr) (xs : List Int) (cap : Nat) (k : Nat) (w : World) (hx : Rd w a xs) (hr : RelP n xs) (hk : k < xs.length) :
    Calls Try.prog 102 #[.agg #[.int .i64 n, .slice a xs.length cap], .int .i64 k] w fun e w' => e = .returned (.int .i64 (freeN xs k)) ∧ Below w.heap.size w w' := by
  have hx1 := hx.alloc (.cells #[.int .i64 n, .slice a xs.length cap] 28)
  have hn := hr.n1
  have h0 := hr.n0
  have hk0 : (0 : Int) ≤ (k : Int) := by omega
  have hk1 : (k : Int) < (xs.length : Int) := by omega
  have HF := Lib.hid (free_val hr hk)
  obtain ⟨b, off, rfl, hbl, hc⟩ := hx1.cell k hk
  obtain ⟨b', off', e', hbl', hc'⟩ := hx.cell k hk
  simp only [Option.some.injEq, Addr.mk.injEq, and_true] at e'
  obtain ⟨rfl, rfl⟩ := e'
  go_enter Try.func102, Try.ntmps102
  go_wp2_with fail
  go_region_held3 (fun w' => w'.cell? ⟨w.heap.size, 0, none⟩ = some (.int .i64 n) ∧ w'.cell? ⟨w.heap.size, 1, none⟩ = some (.slice (some ⟨b, off, none⟩) xs.length cap) ∧ w'.cell? ⟨b, off + k, none⟩ = some (.int .i64 (nth xs k)))
    (first | exact ⟨P1.2.1, P1.2.2, q1⟩ | go_keep)
    (first | (go_at_call 99; refine (orBelow_any _ _ _ _ _ _ (hx1.below (Joins.below_draws _ _ _)) hr (by omega)).mono ?_; rintro e w1 ⟨rfl, hb1⟩; have ht1 : Below (w.alloc (.cells #[.int .i64 n, .slice (some ⟨b, off, none⟩) xs.length cap] 28)).heap.size (w.alloc (.cells #[.int .i64 n, .slice (some ⟨b, off, none⟩) xs.length cap] 28)) w1 := (Joins.below_draws _ _ _).trans hb1; have P1 := (Box2.new w _ _ _).below ht1; have q1 := (ht1.cell (p := ⟨b, off + k, none⟩) hbl).trans hc))
  go_wp2_with fail
  go_ret
  exact ⟨ret_int (by rw [show min k 64 = k from by have := hr.len; omega, ← HF.out]; simp only [i64_wrap]), Below.trans (by repeat (first | exact Below.refl _ _ | assumption | refine Below.alloc ?_ (by first | exact Nat.le_refl _ | (simp only [World.size_alloc, World.size_setCell, World.size_drew]; omega) | omega) _ | refine Below.setCell ?_ (by first | exact Nat.le_refl _ | (simp only [World.size_alloc, World.size_setCell, World.size_drew]; omega) | omega) _ | refine Below.drew ?_)) (ht1.mono (by first | (simp only [World.size_alloc, World.size_setCell, World.size_drew]; omega) | omega))⟩

theorem wpList_append_none {P : Program} {w : World} {ops : Array Oper} {rest : List Oper} {o : Oper} {a : Act} {Q : Exit → Act → World → Prop} (hgd : o.guard = none) (s x : Operand) (t : TypeId)
    (ho : o.op = .call { callee := .builtin .append, args := #[s, x], argTypes := #[t, t] })
    (base : Nat) (e : TypeId) (i : TypeInfo) (size : Nat) (ht : P.underlying t = some (.slice e)) (hi : P.info? e = some i)
    (v : Value) (n c : Nat) (xs : List Value) (hs : a.eval s = v) (hown : w.ownsRow base e size v n xs) (hx : a.eval x = .slice none 0 c)
    (h : wpList P ops Q rest (a.put o.dst v) w) : wpList P ops Q (o :: rest) a w := by
  refine wpList_plain hgd fun K hK => ?_
  have hrun : (Builtin.append_ #[t, t] o.type #[v, .slice none 0 c]).run P w = .ok v w := by
    rcases hown.2 with ⟨rfl, rfl⟩ | ⟨g, cap, cur, rfl, _, _, hnc, _⟩
    · simp [Builtin.append_, run_underlying ht, sizeOf, typeInfo, hi, Builtin.lenOf, Builtin.firstCells]
    · simp [Builtin.append_, run_underlying ht, sizeOf, typeInfo, hi, Builtin.lenOf, Builtin.firstCells, hnc, storeCells]
  unfold Oper.wp
  simp [execOp, ho, resolve, invoke, builtin, hs, hx, hrun, Result.andThen]
  exact hK _ _ h
theorem rd_news {w : World} {ad : Addr} {xs : List Int} (hx : Rd w (some ad) xs) : ∀ j u, (xs.map (Value.int .i64))[j]? = some u → w.cell? (ad.add j) = some u := by
  intro j u hj
  rw [List.getElem?_map, Option.map_eq_some_iff] at hj
  obtain ⟨x, hx1, rfl⟩ := hj
  obtain ⟨hlt, e⟩ := List.getElem?_eq_some_iff.1 hx1
  obtain ⟨b, off, e1, _, hc⟩ := hx.cell j hlt
  simp only [Option.some.injEq] at e1
  subst e1
  rw [Addr.add_lit, hc, nth_get xs j hlt, e]
theorem ints_one (xs : List Int) : ∀ u ∈ xs.map (Value.int .i64), u.oneCell' = true := by
  intro u hu
  obtain ⟨x, _, rfl⟩ := List.mem_map.1 hu
  rfl

theorem l1Own_any (a : Option Addr) (xs : List Int) (cap : Nat) (w : World) (hx : Rd w a xs) (hn : xs.length ≤ 1048576) :
    Calls Try.prog 94 #[.slice a xs.length cap] w fun e w' => ∃ a' cap', e = .returned (.slice a' xs.length cap') ∧ OwnI w' w.heap.size (.slice a' xs.length cap') xs ∧ Below w.heap.size w w' := by
  obtain ⟨i0, hi, hz0, hz1, hz2⟩ := info_parts infoInt
  have hown : (w.alloc (.cells #[] 3)).ownsRow w.heap.size 3 1 (.slice (some ⟨w.heap.size, 0, none⟩) 0 0) 0 [] := World.ownsRow_lit w #[] 0 (Nat.le_refl _) (by simp [maxLen]) (by simp)
  cases a with
  | none =>
    have h0 : xs = [] := by
      rcases xs with _ | ⟨x, t⟩
      · rfl
      · obtain ⟨b, off, e, _⟩ := hx.cell 0 (by simp)
        cases e
    subst h0
    go_enter Try.func94, Try.ntmps94
    go_wp2_with (at_builtin; refine wpList_append_none rfl _ _ 22 rfl w.heap.size 3 i0 1 Try.underlying22 hi _ 0 _ [] rfl hown rfl ?_)
    go_wp2_with fail
    go_ret
    exact ⟨_, _, rfl, hown, (by repeat (first | exact Below.refl _ _ | assumption | refine Below.alloc ?_ (by first | exact Nat.le_refl _ | (simp only [World.size_alloc, World.size_setCell, World.size_drew]; omega) | omega) _ | refine Below.setCell ?_ (by first | exact Nat.le_refl _ | (simp only [World.size_alloc, World.size_setCell, World.size_drew]; omega) | omega) _ | refine Below.drew ?_))⟩
  | some ad =>
    have hx1 := hx.alloc (.cells #[] 3)
    go_enter Try.func94, Try.ntmps94
    go_wp2_with (at_builtin; refine wpList_append_own _ rfl _ _ 22 rfl w.heap.size 3 i0 (.int .i64 0) 1 8 Try.underlying22 hi hz0 hz1 hz2 rfl (by decide) _ 0 [] rfl hown ad xs.length cap (xs.map (Value.int .i64)) rfl (by simp) ?c1 ?c2 ?c3 ?c4 ?c5 ?_)
    case c1 => exact rd_news hx1
    case c2 => exact ints_one xs
    case c3 => unfold maxLen; omega
    case c4 => omega
    case c5 => simp
    · intro v' w1 hown' hgrow _
      try simp only [Nat.zero_add, List.nil_append] at hown'
      have hb : Below w.heap.size w w1 := ((Below.refl _ _).alloc (Nat.le_refl _) _).grown hgrow (by simp) (fun b e => by simp [Value.ownBlock] at e; omega)
      obtain ⟨a', cap', rfl⟩ := OwnI.form (xs := xs) hown'
      have HO := Lib.hid hown'
      clear hown' hgrow hown
      go_wp2_with fail
      go_ret
      exact ⟨a', cap', rfl, HO.out, hb⟩

/-- one number more at the end of a row that is owned -/
theorem push_at {ops : Array Oper} {rest : List Oper} {o : Oper} {a : Act} {Q : Exit → Act → World → Prop} (hgd : o.guard = none) (s x : Operand)
    (ho : o.op = .call { callee := .builtin .append, args := #[s, x], argTypes := #[22, 22] }) {wr : World} {B : Nat} {v : Value} {ys : List Int} {z : Int}
    (hs : a.eval s = v) (hown : OwnI wr B v ys) (hx : a.eval x = .slice (some ⟨wr.heap.size, 0, none⟩) 1 1) (h63 : ys.length ≤ 1048576) (hB : B ≤ wr.heap.size)
    (h : ∀ v' w', OwnI w' B v' (ys ++ [z]) → wr.grownBy w' v.ownBlock → (v'.ownBlock = v.ownBlock ∨ v'.ownBlock = some (wr.heap.size + 1)) → wpList Try.prog ops Q rest (a.put o.dst v') w') :
    wpList Try.prog ops Q (o :: rest) a (wr.alloc (.cells #[.int .i64 z] 3)) := by
  obtain ⟨i0, hi, hz0, hz1, hz2⟩ := info_parts infoInt
  refine wpList_append_own_at _ hgd s x 22 ho B 3 i0 (.int .i64 0) 1 8 Try.underlying22 hi hz0 hz1 hz2 rfl (by decide) v ys.length (ys.map (Value.int .i64)) hs (hown.alloc _) ⟨wr.heap.size, 0, none⟩ 1 1 [.int .i64 z] hx rfl (cell_one_new _ _ _) (by intro u hu; simp at hu; subst hu; rfl) (by unfold maxLen; omega) (by omega) (by simp; omega) ?_
  intro v' w' ho2 hg _ hat
  refine h v' w' ?_ (grown_alloc_set hg) (by simpa using hat)
  unfold OwnI
  rw [List.length_append, List.map_append]
  exact ho2
/-- the same at a step of a region that draws its order; the new number lies somewhere -/
theorem step_push {ops : Array Oper} {o : Oper} {a : Act} {K : Act → World → Prop} {Q : Exit → Act → World → Prop} {E : Prop} (hgd : o.guard = none) (s x : Operand)
    (ho : o.op = .call { callee := .builtin .append, args := #[s, x], argTypes := #[22, 22] }) {W : World} {B g n : Nat} {v : Value} {ys : List Int} {z : Int}
    (hs : a.eval s = v) (hx : a.eval x = .slice (some ⟨g, 0, none⟩) 1 1) (hown : OwnI W B v ys) (hn : ys.length = n) (hz : W.cell? ⟨g, 0, none⟩ = some (.int .i64 z)) (h63 : n ≤ 1048576) (hB : B ≤ W.heap.size)
    (h : ∀ g' cap w', OwnI w' B (.slice (some ⟨g', 0, none⟩) (n + 1) cap) (ys ++ [z]) → W.grownBy w' v.ownBlock → (v.ownBlock = some g' ∨ g' = W.heap.size) → K (a.put o.dst (.slice (some ⟨g', 0, none⟩) (n + 1) cap)) w') :
    if Region.wanted o (yielded ops a.tmps) = true then Oper.wp Try.prog o a W K Q else E := by
  subst hn
  obtain ⟨i0, hi, hz0, hz1, hz2⟩ := info_parts infoInt
  refine step_append_lies W hgd s x 22 ho B 3 i0 (.int .i64 0) 1 8 Try.underlying22 hi hz0 hz1 hz2 rfl (by decide) v ys.length (ys.map (Value.int .i64)) hs hown ⟨g, 0, none⟩ 1 1 [.int .i64 z] hx rfl ?_ (by intro u hu; simp at hu; subst hu; rfl) (by omega) (by unfold maxLen; omega) (by omega) hB W.heap.size rfl ?_
  · intro j u hj
    obtain ⟨hlt, e⟩ := List.getElem?_eq_some_iff.1 hj
    have h0 : j = 0 := by simpa using hlt
    subst h0
    simp at e
    subst e
    rw [Addr.add_lit]; simpa using hz
  · intro g' cap w' ho2 hg hat _
    refine h g' cap w' ?_ hg hat
    unfold OwnI
    rw [List.length_append, List.map_append]
    exact ho2
theorem news_after {w w3 : World} {x : Int} {m : Nat} (h : Below ((w.drewN m).alloc (.cells #[.int .i64 x] 3)).heap.size ((w.drewN m).alloc (.cells #[.int .i64 x] 3)) w3) : w3.cell? ⟨w.heap.size, 0, none⟩ = some (.int .i64 x) :=
  (h.cell (p := ⟨w.heap.size, 0, none⟩) (show w.heap.size < ((w.drewN m).alloc _).heap.size by rw [World.size_alloc]; exact Nat.lt_succ_of_le (Joins.below_draws w.heap.size w m).size)).trans ((show ∀ W : World, (W.alloc (.cells #[.int .i64 x] 3)).cell? ⟨W.heap.size, 0, none⟩ = some (.int .i64 x) from fun W => by simp) (w.drewN m))
theorem below_after {w w3 : World} {m : Nat} {o : Obj} (h : Below ((w.drewN m).alloc o).heap.size ((w.drewN m).alloc o) w3) : Below w.heap.size w w3 :=
  Below.trans ((Joins.below_draws w.heap.size w m).alloc (Joins.below_draws w.heap.size w m).size _) (h.mono (Nat.le_trans (Joins.below_draws w.heap.size w m).size (by simp)))
theorem below_drew {w w3 : World} {m : Nat} (h : Below (w.drewN m).heap.size (w.drewN m) w3) : Below w.heap.size w w3 :=
  Below.trans (Joins.below_draws w.heap.size w m) (h.mono (Joins.below_draws w.heap.size w m).size)
/-- two values that own no block together -/
def SepV (v u : Value) : Prop := ∀ c, v.ownBlock = some c → u.ownBlock ≠ some c
theorem SepV.symm {v u : Value} (h : SepV v u) : SepV u v := fun c e e2 => h c e2 e
/-- the first of two rows has grown -/
theorem SepV.grow {w : World} {B : Nat} {v v' u : Value} {ys : List Int} {m : Nat} (h : SepV v u) (hu : OwnI w B u ys) (hm : w.heap.size ≤ m) (hat : v'.ownBlock = v.ownBlock ∨ v'.ownBlock = some m) : SepV v' u := by
  intro c e e2
  rcases hat with h1 | h1
  · exact h c (h1 ▸ e) e2
  · rw [h1] at e
    have := (hu.lt c e2).2
    simp only [Option.some.injEq] at e
    omega

set_option maxRecDepth 100000 in
set_option maxHeartbeats 4000000 in
theorem orNum_any (n : Int) (a : Option Addr) (xs : List Int) (cap : Nat) (M : Nat) (B : Nat) (hp : RelP n xs) (hM : M ≤ 2000) :
    ∀ (d : Nat) (l : List Int) (c : Option Addr) (cap3 : Nat) (w : World), l.length + d = xs.length → B ≤ w.heap.size → Rd w a xs → OwnI w B (.slice c l.length cap3) l →
    Calls Try.prog 57 #[.agg #[.int .i64 n, .slice a xs.length cap], .slice c l.length cap3, .int .i64 (M : Int)] w (FsPost w B (nuS (apB xs) M d l)) := by
  have x10 : xs.length ≤ 10 := by have := hp.len; have := hp.n1; omega
  obtain rfl : n = (xs.length : Int) := hp.len.symm
  intro d
  induction d with
  | zero =>
    intro l c cap3 w hld hBw hx ho
    have hz : ((l.length : Int) == (xs.length : Int)) = true := by simp; omega
    have HO := Lib.hid ho
    have hb0 : Below w.heap.size w (w.alloc (.cells #[.int .i64 (xs.length : Int), .slice a xs.length cap] 28)) := (by repeat (first | exact Below.refl _ _ | assumption | refine Below.alloc ?_ (by first | exact Nat.le_refl _ | (simp only [World.size_alloc, World.size_setCell, World.size_drew]; omega) | omega) _ | refine Below.setCell ?_ (by first | exact Nat.le_refl _ | (simp only [World.size_alloc, World.size_setCell, World.size_drew]; omega) | omega) _ | refine Below.drew ?_))
    clear hld ho
    go_enter Try.func57, Try.ntmps57
    go_wp2_with fail
    refine bodyPost_ret (v := .tuple #[.slice c l.length cap3, .bool true]) (by simp [results, Try.results57, go_sem]) rfl ?_
    exact ⟨hb0, c, cap3, rfl, HO.out.below hb0 (Nat.le_refl _)⟩
  | succ d ih =>
    intro l c cap3 w hld hBw hx ho
    have HIH := Lib.hid ih
    have HLD := Lib.hid hld
    have HO := Lib.hid ho
    have HX := Lib.hid hx
    have HBW : Hid (B ≤ w.heap.size) := hBw
    have hz : ((l.length : Int) == (xs.length : Int)) = false := by simp; omega
    have hl9 : l.length ≤ 9 := by omega
    have hlx : l.length < xs.length := by omega
    have A0 := Box2.new w (.int .i64 (xs.length : Int)) (.slice a xs.length cap) 28
    have bw0 : Below w.heap.size w (w.alloc (.cells #[.int .i64 (xs.length : Int), .slice a xs.length cap] 28)) := (by repeat (first | exact Below.refl _ _ | assumption | refine Below.alloc ?_ (by first | exact Nat.le_refl _ | (simp only [World.size_alloc, World.size_setCell, World.size_drew]; omega) | omega) _ | refine Below.setCell ?_ (by first | exact Nat.le_refl _ | (simp only [World.size_alloc, World.size_setCell, World.size_drew]; omega) | omega) _ | refine Below.drew ?_))
    obtain ⟨G, hG⟩ : ∃ G : Nat → Option (List Int), G = fun x : Nat => if apB xs (l ++ [(x : Int)]) then nuS (apB xs) M d (l ++ [(x : Int)]) else none := ⟨_, rfl⟩
    have HG : Hid (∀ x : Nat, G x = if apB xs (l ++ [(x : Int)]) then nuS (apB xs) M d (l ++ [(x : Int)]) else none) := fun i => by rw [hG]
    have HR : Hid (nuS (apB xs) M (d+1) l = find1 G M) := by rw [Hid, nuS, hG]
    have hfs := freeN_small hp l.length
    have HFR := Lib.hid (fun (w' : World) (hx' : Rd w' a xs) => orFree_any (xs.length : Int) a xs cap l.length w' hx' hp hlx)
    obtain ⟨S, hS⟩ : ∃ S, S = freeN xs l.length := ⟨_, rfl⟩
    rw [← hS] at hfs HFR
    have HAE : Hid (∀ (x j : Nat), j < l.length → apE xs (l ++ [(x : Int)]) j = !(nth l j == (x : Int) && S.testBit j)) := by
      intro x j hj
      simp only [apE, List.length_append, List.length_singleton, Nat.add_sub_cancel]
      have e1 : nth (l ++ [(x : Int)]) j = nth l j := by simp [nth, List.getD_eq_getElem?_getD, List.getElem?_append_left hj]
      have e2 : nth (l ++ [(x : Int)]) l.length = (x : Int) := by simp [nth, List.getD_eq_getElem?_getD]
      rw [e1, e2, hS]
    have S0 : (0 : Int) ≤ (S : Int) := by omega
    have S1 : (S : Int) ≤ 9223372036854775807 := by omega
    clear ih hld ho hx hG hS
    go_enter Try.func57, Try.ntmps57
    go_wp2_with fail
    obtain ⟨w1, hw1⟩ : ∃ x : World, x = w.alloc (.cells #[.int .i64 (xs.length : Int), .slice a xs.length cap] 28) := ⟨_, rfl⟩
    rw [← hw1] at A0 bw0 ⊢
    clear hw1
    go_loopw [9] (fun i' wr => ∃ k : Nat, k ≤ M ∧ i' = .int .i64 k ∧ Below w.heap.size w wr ∧ Box2 wr w.heap.size (.int .i64 (xs.length : Int)) (.slice a xs.length cap) ∧ (∀ j, j < k → G j = none)) (fun i _ => M - (intOf i).toNat)
    case atStart => exact ⟨0, Nat.zero_le _, rfl, bw0, A0, fun j hj => by omega⟩
    case round =>
      clear A0 bw0
      obtain ⟨k, hk, rfl, hb, hA, hno⟩ := hrel
      have HNO := Lib.hid hno
      have HBB := Lib.hid hb
      have HA := Lib.hid hA
      have ⟨zA, cA, dA⟩ := hA
      have hbs := hb.size
      clear hno
      by_cases hkx : k < M
      · have k0 : (0 : Int) ≤ (k : Int) := by omega
        go_wp2_with fail
        go_loopw [10, 29] (fun f i' wi => ∃ j : Nat, j ≤ l.length ∧ i' = .int .i64 j ∧ f = .bool ((List.range j).all (apE xs (l ++ [(k : Int)]))) ∧ Below w.heap.size w wi ∧ Box2 wi w.heap.size (.int .i64 (xs.length : Int)) (.slice a xs.length cap)) (fun _ i _ => l.length - (intOf i).toNat)
        case atStart => exact ⟨0, Nat.zero_le _, rfl, rfl, hb, hA⟩
        case round =>
          clear HBB HA cA dA zA hbs hb hA
          obtain ⟨j, hj, rfl, rfl, hb, hA⟩ := hrel
          have HBB := Lib.hid hb
          have HA := Lib.hid hA
          have ⟨zA, cA, dA⟩ := hA
          have hbs := hb.size
          clear hb hA
          by_cases hjl : j < l.length
          · obtain ⟨b3, off3, rfl, hbl3, hcj⟩ := (HO.out.rd.below HBB.out).cell j hjl
            have j0 : (0 : Int) ≤ (j : Int) := by omega
            have HALL : Hid ((List.range (j+1)).all (apE xs (l ++ [(k : Int)])) = ((List.range j).all (apE xs (l ++ [(k : Int)])) && apE xs (l ++ [(k : Int)]) j)) := by
              rw [Hid, List.range_succ, List.all_append]; simp
            have HAE1 := Lib.hid (HAE.out k j hjl)
            cases hall : (List.range j).all (apE xs (l ++ [(k : Int)]))
            · have HV : Hid ((List.range (j+1)).all (apE xs (l ++ [(k : Int)])) = false) := by rw [Hid, HALL.out, hall]; rfl
              clear hall
              go_wp2_with fail
              go_roundw
              case rel => exact ⟨j + 1, by omega, by go_num, by rw [HV.out], HBB.out, HA.out⟩
              case measure => simp [intOf]; omega
            · cases hd : (nth l j == (k : Int))
              · have hne : (nth l j != (k : Int)) = true := by rw [bne, hd]; rfl
                have HV : Hid ((List.range (j+1)).all (apE xs (l ++ [(k : Int)])) = true) := by rw [Hid, HALL.out, hall, HAE1.out, hd]; rfl
                clear hall
                go_wp2_with fail
                go_roundw
                case rel => exact ⟨j + 1, by omega, by go_num, by rw [HV.out], HBB.out, HA.out⟩
                case measure => simp [intOf]; omega
              · have hne : (nth l j != (k : Int)) = false := by rw [bne, hd]; rfl
                cases hh : hasB (S : Int) (j : Int)
                all_goals
                  have HH := Lib.hid hh
                  have HV : Hid ((List.range (j+1)).all (apE xs (l ++ [(k : Int)])) = !hasB (S : Int) (j : Int)) := by
                    rw [Hid, HALL.out, hall, HAE1.out, hd, Bool.true_and, Bool.true_and]; rfl
                  rw [HH.out] at HV
                  clear hall hh
                  go_wp2_with fail
                  refine (HFR.out _ (HX.out.below HBB.out)).mono ?_
                  rintro e w2 ⟨rfl, hb2⟩
                  have b2 := HBB.out.trans (hb2.mono hbs)
                  have A2 := HA.out.below hb2
                  clear hb2 cA dA
                  go_wp2_with fail
                  refine (orHas_any _ _ _ S0 S1 j0).mono ?_
                  rw [HH.out]
                  rintro e w' ⟨rfl, rfl⟩
                  go_wp2_with fail
                  go_roundw
                  case rel => exact ⟨j + 1, by omega, by go_num, by rw [HV.out]; rfl, b2, A2⟩
                  case measure => simp [intOf]; omega
          · obtain rfl : j = l.length := by omega
            have HAB : Hid (apB xs (l ++ [(k : Int)]) = (List.range l.length).all (apE xs (l ++ [(k : Int)]))) := by
              rw [Hid, apB, List.length_append, List.length_singleton, Nat.add_sub_cancel]
            have HGK := Lib.hid (HG.out k)
            obtain ⟨P, hP⟩ : ∃ P, P = l ++ [(k : Int)] := ⟨_, rfl⟩
            have HPL : Hid (P.length = l.length + 1) := by rw [hP]; simp [Hid]
            have HPE := Lib.hid hP
            rw [← hP] at HAB HGK ⊢
            clear hP
            rw [← HAB.out]
            cases hf : apB xs P
            · rw [hf] at HGK
              have HGN : Hid (G k = none) := by rw [Hid, HGK.out]; rfl
              clear hf
              go_wp2_with fail
              go_roundw
              case rel =>
                refine ⟨k + 1, by omega, by go_num, HBB.out, HA.out, fun j hj => ?_⟩
                by_cases e : j = k
                · rw [e]; exact HGN.out
                · exact HNO.out j (by omega)
              case measure => simp [intOf]; omega
            · rw [hf] at HGK
              have HGN : Hid (G k = nuS (apB xs) M d P) := by rw [Hid, HGK.out]; rfl
              have hoq := Lib.hid (HO.out.rd.below HBB.out)
              have HIH2 : Hid (∀ b' cap2' w', B ≤ w'.heap.size → Below w.heap.size w w' → OwnI w' B (.slice b' (l.length + 1) cap2') P → Calls Try.prog 57 #[.agg #[.int .i64 (xs.length : Int), .slice a xs.length cap], .slice b' (l.length + 1) cap2', .int .i64 (M : Int)] w' (FsPost w' B (G k))) := fun b' cap2' w' h1 h2 h3 => by
                have h := HIH.out P b' cap2' w' (by have := HLD.out; have := HPL.out; omega) h1 (HX.out.below h2)
                rw [← HGN.out, HPL.out] at h
                exact h h3
              obtain ⟨r, hr⟩ : ∃ r, G k = r := ⟨_, rfl⟩
              rw [hr] at HIH2
              have HRR := Lib.hid hr
              clear hr hf
              go_wp2_with fail
              go_region_law (first
                | (have _g := ho5; go_simp; go_at_call 57; refine (HIH2.out _ _ _ (by have := HBW.out; have := b5.size; simp; omega) (by first | exact HBB.out.trans (b5.mono hbs) | exact (HBB.out.trans (b5.mono hbs)).drew) (by rw [HPE.out]; first | exact o5 | exact o5.below (Below.refl _ _).drew (Nat.le_refl _))).mono ?_; rintro e w6 ⟨hb6, a6, c6, rfl, ho6⟩)
                | (have _g := NW; refine step_push (by rfl) _ _ (by rfl) (by rfl) (by rfl) (by first | exact ho3 | exact ho3.below (Joins.below_draws _ _ _) (Nat.le_refl _)) (by rfl) (by exact NW) (by omega) (by exact ht3.size) ?_; intro g5 c5 w5 ho5 hg5 hat5; have b5 : Below wr.heap.size wr w5 := ht3.trans (below_of_grown hg5 (fun c e => (ho3.lt c e).1) ht3.size); have o5 := ho5.mono (B' := B) (by have := HBW.out; omega); have ⟨zA5, cA5, dA5⟩ := HA.out.below b5)
                | (have _g := ho3; refine step_push (by rfl) _ _ (by rfl) (by rfl) (by rfl) (by exact ho3.alloc _) (by rfl) (by simp; rfl) (by omega) (by have := ht3.size; simp; omega) ?_; intro g5 c5 w5 ho5 hg5 hat5; have b5 : Below wr.heap.size wr w5 := ht3.trans (below_of_grown (grown_alloc_set hg5) (fun c e => (ho3.lt c e).1) ht3.size); have o5 := ho5.mono (B' := B) (by have := HBW.out; omega); have ⟨zA5, cA5, dA5⟩ := HA.out.below b5)
                | (go_simp; go_at_call 94; refine (l1Own_any _ l _ _ (by first | exact hoq.out.below (Joins.below_draws _ _ _) | exact (hoq.out.below (Joins.below_draws _ _ _)).alloc _) (by omega)).mono ?_; rintro e w3 ⟨a3, c3, rfl, ho3', hb3⟩; have ht3 : Below wr.heap.size wr w3 := (by first | exact below_drew hb3 | exact below_after hb3); have ho3 := ho3'.mono (B' := wr.heap.size) (by simp); have ⟨zA3, cA3, dA3⟩ := HA.out.below ht3; (try have NW := news_after hb3); clear ho3' hb3))
              all_goals
                have ht6 : Below wr.heap.size wr w6 := b5.trans ((by first | exact below_drew hb6 | exact hb6 : Below w5.heap.size w5 w6).mono b5.size)
                cases r with
                | none =>
                  simp only [Option.getD_none, Option.isSome_none, List.length_nil]
                  go_wp2_with fail
                  go_roundw
                  case rel =>
                    refine ⟨k + 1, by omega, by go_num, HBB.out.trans (ht6.mono hbs), HA.out.below ht6, fun j hj => ?_⟩
                    by_cases e : j = k
                    · rw [e]; exact HRR.out
                    · exact HNO.out j (by omega)
                  case measure => simp [intOf]; omega
                | some zs =>
                  have HRES : Hid (nuS (apB xs) M (d+1) l = some zs) := by rw [Hid, HR.out]; exact find1_some hkx HRR.out HNO.out
                  simp only [Option.getD_some, Option.isSome_some] at ho6 ⊢
                  go_wp2_with fail
                  refine bodyPost_ret (v := .tuple #[.slice a6 zs.length c6, .bool true]) (by simp [results, Try.results57, go_sem]) rfl ?_
                  rw [HRES.out]
                  exact ⟨HBB.out.trans (ht6.mono hbs), a6, c6, rfl, ho6⟩
      · have HRES : Hid (nuS (apB xs) M (d+1) l = none) := by rw [Hid, HR.out]; exact find1_none (fun j hj => HNO.out j (by omega))
        go_wp2_with fail
        refine bodyPost_ret (v := .tuple #[.slice none 0 0, .bool false]) (by simp [results, Try.results57, go_sem]) rfl ?_
        rw [HRES.out]
        exact ⟨HBB.out, none, 0, rfl, OwnI.nil _ _⟩

theorem OwnI.new (w : World) (xs : List Int) (h : xs.length ≤ 1048576) : OwnI (w.alloc (.cells (xs.map (Value.int .i64)).toArray 3)) w.heap.size (.slice (some ⟨w.heap.size, 0, none⟩) xs.length xs.length) xs :=
  ⟨by simp, .inr ⟨w.heap.size, xs.length, (xs.map (Value.int .i64)).toArray, rfl, Nat.le_refl _, heap_alloc_new w _, Nat.le_refl _, by unfold maxLen; omega, by simp, by simp [List.take_of_length_le]⟩⟩

theorem OwnI.capLe {w : World} {B n cap : Nat} {a : Option Addr} {xs : List Int} (h : OwnI w B (.slice a n cap) xs) : n ≤ cap := by
  rcases h.2 with ⟨e, _⟩ | ⟨g, cap', cur, e, _, _, hc, _⟩
  · simp only [Value.slice.injEq] at e
    omega
  · simp only [Value.slice.injEq] at e
    omega
theorem Rd.take {w : World} {a : Option Addr} {xs : List Int} (h : Rd w a xs) (k : Nat) : Rd w a (xs.take k) :=
  ⟨Nat.le_trans (by rw [List.length_take]; exact Nat.min_le_right _ _) h.len, fun j hj => by
    have hj' : j < xs.length ∧ j < k := by rw [List.length_take] at hj; omega
    obtain ⟨b, off, e, hl, hc⟩ := h.cell j hj'.1
    refine ⟨b, off, e, hl, hc.trans ?_⟩
    simp [nth, List.getD_eq_getElem?_getD, List.getElem?_take, hj'.2]⟩

theorem lit_own (w : World) (x : Int) (B : Nat) (hB : B ≤ w.heap.size) : (w.alloc (.cells #[.int .i64 x] 3)).ownsRow B 3 1 (.slice (some ⟨w.heap.size, 0, none⟩) 1 1) 1 [.int .i64 x] := by
  have h := (OwnI.new w [x] (by simp)).mono hB
  exact h

theorem orList_any (s : Int) (w : World) (h0 : 0 ≤ s) (h1 : s < 1024) :
    Calls Try.prog 98 #[.int .i64 s] w fun e w' => ∃ a cap, e = .returned (.slice a (elems s.toNat).length cap) ∧ OwnI w' w.heap.size (.slice a (elems s.toNat).length cap) (elems s.toNat) ∧ Below w.heap.size w w' := by
  obtain ⟨S, rfl⟩ := Int.eq_ofNat_of_zero_le h0
  have hS : S < 1024 := by omega
  obtain ⟨i0, hi, hz0, hz1, hz2⟩ := info_parts infoInt
  have hsh : ∀ k : Nat, (S : Int) / 2 ^ min k 64 = ((S >>> k : Nat) : Int) := fun k => shr_nat S k (by omega)
  have HSH := Lib.hid hsh
  clear hsh
  go_enter Try.func98, Try.ntmps98
  go_wp2_with fail
  go_loopw [3, 4] (fun v i wr => ∃ k : Nat, k ≤ 10 ∧ i = .int .i64 k ∧ wr.ownsRow w.heap.size 3 1 v (elemsTo S k).length ((elemsTo S k).map (Value.int .i64)) ∧ Below w.heap.size w wr) (fun _ i _ => 10 - (intOf i).toNat)
  case atStart => exact ⟨0, by omega, rfl, by simpa [elemsTo] using World.ownsRow_nil _ _ _ _, Below.refl _ _⟩
  case round =>
    obtain ⟨k, hk, rfl, hown, hb⟩ := hrel
    have hln := elemsTo_len S k
    have hsz := hb.size
    have hq := HSH.out k
    rw [show min k 64 = k from by omega] at hq
    by_cases hz : S >>> k = 0
    · have ht : ¬ (0 : Int) < (S : Int) / 2 ^ k := by rw [hq, hz]; omega
      have HZ := Lib.hid hz
      clear hq hz
      go_wp2_with fail
      go_ret
      have e := elems_at HZ.out hk
      rw [e] at hown
      obtain ⟨a, cap, rfl⟩ := OwnI.form hown
      exact ⟨a, cap, rfl, hown, hb⟩
    · have ht : (0 : Int) < (S : Int) / 2 ^ k := by rw [hq]; exact Int.natCast_pos.2 (Nat.pos_of_ne_zero hz)
      have hk9 : k < 10 := by
        rcases Nat.lt_or_ge k 10 with h | h
        · exact h
        · obtain rfl : k = 10 := by omega
          exact absurd (by rw [Nat.shiftRight_eq_div_pow]; exact Nat.div_eq_of_lt (by omega)) hz
      clear hq hz
      have hhas : hasB (S : Int) (k : Int) = S.testBit k := rfl
      cases hin : S.testBit k
      · rw [hin] at hhas
        go_wp2_with (go_at_call 77; refine (orHas_any _ _ _ (by omega) (by omega) (by omega)).mono ?_; rintro e w' ⟨rfl, rfl⟩)
        go_roundw
        case rel => exact ⟨k + 1, by omega, by go_num, by simpa [elemsTo, hin] using hown, hb⟩
        case measure => simp [intOf]; omega
      · rw [hin] at hhas
        go_wp2_with (first | (go_at_call 77; refine (orHas_any _ _ _ (by omega) (by omega) (by omega)).mono ?_; rintro e w' ⟨rfl, rfl⟩) | (at_builtin; refine wpList_append_own _ rfl _ _ 22 rfl w.heap.size 3 i0 (.int .i64 0) 1 8 Try.underlying22 hi hz0 hz1 hz2 rfl (by decide) _ _ _ rfl (hown.alloc _) ⟨wr.heap.size, 0, none⟩ 1 1 [.int .i64 k] rfl rfl ?c1 ?c2 ?c3 ?c4 ?c5 ?_))
        case c1 =>
          intro j u hj
          match j, hj with
          | 0, hj => simp at hj; subst hj; simp [Addr.add]
        case c2 => intro u hu; simp at hu; subst hu; rfl
        case c3 => unfold maxLen; omega
        case c4 => omega
        case c5 => simp; omega
        · intro v' w1 hown' hgrow _
          have hlt := World.ownsRow.lt hown
          have hb1 : Below w.heap.size w w1 := (hb.alloc hsz _).grown hgrow (by simp; omega) (fun b e => (hlt b e).1)
          have HO := Lib.hid hown'
          clear hown' hgrow hown
          go_wp2_with fail
          go_roundw
          case rel => exact ⟨k + 1, by omega, by go_num, by simpa [elemsTo, hin] using HO.out, hb1⟩
          case measure => simp [intOf]; omega

theorem rest_val {xs : List Int} (h : xs.length ≤ 10) {S i : Nat} (hS : S < 1024) (hi : i < xs.length) :
    bits .andNot .i64 (bits .and .i64 (S : Int) ((freeN xs i : Nat) : Int)) (IntKind.i64.wrap (IntKind.i64.wrap (2 ^ i) - 1)) = ((S &&& (nth (lats xs) i).toNat : Nat) : Int) := by
  rw [i64_wrap, i64_wrap]
  have hf := freeN_lt h i
  have h2 : 2 ^ i ≤ 2 ^ 10 := Nat.pow_le_pow_right (by omega) (by omega)
  have h1 := Nat.two_pow_pos i
  rw [and_nat S _ (by omega) (by omega), pow_w (by omega)]
  have e : wrap64 (((2 ^ i : Nat) : Int) - 1) = ((2 ^ i - 1 : Nat) : Int) := by
    rw [IntWalk.wrap64_in _ ⟨by omega, by omega⟩]
    omega
  rw [e, sub_nat _ _ (Nat.lt_of_le_of_lt Nat.and_le_left (by omega)) (by omega), sub_and, lats_nth hi]
set_option maxRecDepth 100000 in
theorem orLarger_any (n : Int) (xs : List Int) (cap : Nat) (hp : RelP n xs) : ∀ (S : Nat) (a : Option Addr) (w : World), S < 2 ^ xs.length → Rd w a xs →
    Calls Try.prog 58 #[.agg #[.int .i64 n, .slice a xs.length cap], .int .i64 S] w fun e w' => ∃ a' cap', e = .returned (.slice a' (lng (lats xs) S).length cap') ∧ OwnI w' w.heap.size (.slice a' (lng (lats xs) S).length cap') (lng (lats xs) S) ∧ Below w.heap.size w w' := by
  have hl10 : xs.length ≤ 10 := by have := hp.len; have := hp.n1; omega
  intro S
  induction S using Nat.strongRecOn with
  | _ S ih =>
    intro a w hS0 hx
    obtain ⟨i0, hi, hz0, hz1, hz2⟩ := info_parts infoInt
    have hf := lats_flw hl10
    have hS : S < 1024 := Nat.lt_of_lt_of_le hS0 (Nat.pow_le_pow_right (by omega) hl10)
    have HIH := Lib.hid ih
    have HS0 := Lib.hid hS0
    have HL := Lib.hid (lng_eq hf S)
    obtain ⟨rest, hrest⟩ : ∃ rest : Nat → List Int, rest = fun i => lng (lats xs) (S &&& (nth (lats xs) i).toNat) := ⟨_, rfl⟩
    have HR := Lib.hid hrest
    have hrl : ∀ i, (rest i).length ≤ 1024 := fun i => by
      rw [hrest]
      have := lng_len (lats xs) (S &&& (nth (lats xs) i).toNat)
      have h2 : S &&& (nth (lats xs) i).toNat ≤ S := Nat.and_le_left
      simp only; omega
    obtain ⟨es, hes⟩ : ∃ es, es = elems S := ⟨_, rfl⟩
    have hel : ∀ m, m < es.length → ∃ i : Nat, i < xs.length ∧ S.testBit i = true ∧ nth es m = (i : Int) := fun m hm => by
      rw [hes] at hm ⊢
      have h1 := nth_mem hm
      rw [mem_elems hS] at h1
      obtain ⟨i, hb, e⟩ := h1
      refine ⟨i, ?_, hb, e⟩
      rcases Nat.lt_or_ge i xs.length with h | h
      · exact h
      · have : S < 2 ^ i := Nat.lt_of_lt_of_le hS0 (Nat.pow_le_pow_right (by omega) h)
        rw [Nat.testBit_lt_two_pow this] at hb
        cases hb
    have hfin : es.foldl (stepL rest) [] = bestTo rest S xs.length := by rw [hes, elems_lt hS0 hl10, fold_best]
    obtain ⟨bst, hbst⟩ : ∃ bst : Nat → List Int, bst = fun m => (es.take m).foldl (stepL rest) [] := ⟨_, rfl⟩
    have hb0 : bst 0 = [] := by simp [hbst]
    have hbs : ∀ m, m < es.length → bst (m+1) = stepL rest (bst m) (nth es m) := fun m hm => by rw [hbst]; exact fold_take hm
    have hbe : bst es.length = bestTo rest S xs.length := by rw [← hfin, hbst]; simp
    have hbl : ∀ m, m ≤ es.length → (bst m).length ≤ 1025 := by
      intro m
      induction m with
      | zero => intro _; rw [hb0]; simp
      | succ m ih =>
        intro hm
        rw [hbs m (by omega), stepL]
        have h1 := ih (by omega)
        have h2 := hrl (nth es m).toNat
        split
        · simp; omega
        · exact h1
    have hesl : es.length ≤ 10 := by rw [hes]; exact elems_len _
    have HES := Lib.hid hes
    have HRL := Lib.hid hrl
    have HBL := Lib.hid hbl
    have HEL := Lib.hid hel
    have HB0 := Lib.hid hb0
    have HBS := Lib.hid hbs
    have HBE := Lib.hid hbe
    have S0 : (0 : Int) ≤ (S : Int) := by omega
    have S1 : (S : Int) < 1024 := by omega
    clear ih hrest hrl hbl hel hb0 hbs hbe hfin hbst hS0 hes
    go_enter Try.func58, Try.ntmps58
    go_wp2_with fail
    refine (orList_any _ _ S0 S1).mono ?_
    rw [Int.toNat_natCast, ← HES.out]
    rintro e w1 ⟨a1, cap1, rfl, ho1, hb1⟩
    have A1 : Box2 w1 w.heap.size (.int .i64 n) (.slice a xs.length cap) := (Box2.new w _ _ _).below hb1
    have bw1 : Below w.heap.size w w1 := Below.trans (by repeat (first | exact Below.refl _ _ | assumption | refine Below.alloc ?_ (by first | exact Nat.le_refl _ | (simp only [World.size_alloc, World.size_setCell, World.size_drew]; omega) | omega) _ | refine Below.setCell ?_ (by first | exact Nat.le_refl _ | (simp only [World.size_alloc, World.size_setCell, World.size_drew]; omega) | omega) _ | refine Below.drew ?_)) (hb1.mono (by first | (simp only [World.size_alloc, World.size_setCell, World.size_drew]; omega) | omega))
    have hre := ho1.rd
    have hz1' : w.heap.size + 1 ≤ w1.heap.size := by have := A1.1; omega
    clear hb1 ho1
    go_wp2_with fail
    go_loopw [5, 12] (fun v i wr => ∃ (k : Nat) (av : Option Addr) (cv : Nat), k ≤ es.length ∧ i = .int .i64 k ∧ v = .slice av (bst k).length cv ∧ OwnI wr w1.heap.size (.slice av (bst k).length cv) (bst k) ∧ Below w1.heap.size w1 wr) (fun _ i _ => es.length - (intOf i).toNat)
    case atStart => exact ⟨0, none, 0, Nat.zero_le _, rfl, by rw [HB0.out]; rfl, by rw [HB0.out]; exact OwnI.nil _ _, Below.refl _ _⟩
    case round =>
      obtain ⟨k, av, cv, hk, rfl, rfl, hown, hb⟩ := hrel
      have hbk := HBL.out k hk
      have hA := A1.below hb
      have ⟨zA, cA, dA⟩ := hA
      have bwr := bw1.trans (hb.mono bw1.size)
      by_cases hlt : k < es.length
      · obtain ⟨x, hxl, hbit, hxe⟩ := HEL.out k hlt
        obtain ⟨b, off, rfl, hbl, hck⟩ := (hre.below hb).cell k hlt
        rw [hxe] at hck
        have hrv := rest_val hl10 hS hxl
        have hless := and_less hbit (hf.ok x (by rw [lats_len]; exact hxl)).2.2
        have hlt2 : S &&& (nth (lats xs) x).toNat < 2 ^ xs.length := Nat.lt_of_le_of_lt Nat.and_le_left HS0.out
        have hcall := fun (wq : World) (hq : Rd wq a xs) => HIH.out (S &&& (nth (lats xs) x).toNat) hless a wq hlt2 hq
        have hrk : lng (lats xs) (S &&& (nth (lats xs) x).toNat) = rest x := by rw [HR.out]
        rw [hrk] at hcall
        have hbest : bst (k+1) = if (bst k).length ≤ (rest x).length then (x : Int) :: rest x else bst k := by
          rw [HBS.out k hlt, hxe, stepL, Int.toNat_natCast]
        have HC := Lib.hid hcall
        have HA := Lib.hid hrv
        have HBT := Lib.hid hbest
        have hrk2 := HRL.out x
        clear hcall hrv hless hlt2 hrk hbest hbit hxe
        go_wp2_with fail
        go_region_held3 (fun w' => w'.cell? ⟨w.heap.size, 0, none⟩ = some (.int .i64 n) ∧ w'.cell? ⟨w.heap.size, 1, none⟩ = some (.slice a xs.length cap))
          (first | exact ⟨A3.2.1, A3.2.2⟩ | exact ⟨A2.2.1, A2.2.2⟩ | go_keep)
          (first | (go_at_call 102; refine (orFree_any _ _ _ _ _ _ (hx.below (bwr.trans (Joins.below_draws _ _ _))) hp hxl).mono ?_; rintro e w2 ⟨rfl, hb2⟩; have ht2 : Below wr.heap.size wr w2 := (Joins.below_draws _ _ _).trans hb2; have A2 := hA.below ht2; have bw2 := bwr.trans (ht2.mono bwr.size)) | (go_at_call 58; rw [HA.out]; refine (HC.out _ (hx.below bw2)).mono ?_; rintro e w3 ⟨a3, c3, rfl, ho3, hb3⟩; have A3 := A2.below hb3))
        have b3 : Below wr.heap.size wr w3 := ht2.trans (hb3.mono ht2.size)
        have bw3 := hb.trans (b3.mono hb.size)
        have o3 := hown.below b3 (Nat.le_refl _)
        have o4 : OwnI w3 w1.heap.size (.slice a3 (rest x).length c3) (rest x) := ho3.mono (by have := hb.size; have := ht2.size; omega)
        clear ht2 hb2 hb3 ho3 hown HC HA cA dA A2 A3 bw2 hA
        by_cases hle : (bst k).length ≤ (rest x).length
        · have hd : ((bst k).length : Int) < ((rest x).length : Int) + 1 := by omega
          have HB := Lib.hid (show bst (k+1) = (x : Int) :: rest x by rw [HBT.out, if_pos hle])
          have hsz := bw3.size
          have hlit := lit_own w3 (x : Int) w1.heap.size hsz
          have HLIT := Lib.hid hlit
          clear hlit hle
          obtain ⟨R, hR⟩ : ∃ R, R = rest x := ⟨_, rfl⟩
          rw [← hR] at o4 hd hrk2
          rw [← hR]
          have HRR := Lib.hid hR
          clear hR
          cases a3 with
          | none =>
            have hR0 : R = [] := by
              rcases o4.2 with ⟨_, h0⟩ | ⟨g, c, cur, e, _⟩
              · exact List.length_eq_zero_iff.1 h0
              · cases e
            subst hR0
            have HO3 : Hid (OwnI (w3.alloc (.cells #[.int .i64 (x : Int)] 3)) w1.heap.size (.slice (some ⟨w3.heap.size, 0, none⟩) 1 1) [(x : Int)]) := HLIT.out
            have hbe : bst k = [] := List.length_eq_zero_iff.1 (by simp at hd; omega)
            rw [hbe]
            clear o4 o3 hd hbe hbk
            go_wp2_with (at_builtin; refine wpList_append_none rfl _ _ 22 rfl w1.heap.size 3 i0 1 Try.underlying22 hi (.slice (some ⟨w3.heap.size, 0, none⟩) 1 1) 1 c3 [.int .i64 (x : Int)] rfl HLIT.out rfl ?_)
            go_roundw
            case rel => exact ⟨k + 1, some ⟨w3.heap.size, 0, none⟩, 1, by omega, by go_num, by rw [HB.out, ← HRR.out]; rfl, by rw [HB.out, ← HRR.out]; exact HO3.out, bw3.alloc hsz _⟩
            case measure => simp [intOf]; omega
          | some ad =>
            have hrd := o4.rd
            go_wp2_with (at_builtin; refine wpList_append_own _ rfl _ _ 22 rfl w1.heap.size 3 i0 (.int .i64 0) 1 8 Try.underlying22 hi hz0 hz1 hz2 rfl (by decide) (.slice (some ⟨w3.heap.size, 0, none⟩) 1 1) 1 [.int .i64 (x : Int)] rfl HLIT.out ad R.length c3 (R.map (Value.int .i64)) rfl (by rw [List.length_map, Nat.mul_one]) (rd_news (hrd.alloc _)) (ints_one _) (by unfold maxLen; omega) (by omega) (by simp; omega) ?_)
            intro v' w4 hw4 hg4 _
            have hb4 : Below w1.heap.size w1 w4 := (bw3.alloc hsz _).grown hg4 (by simp; omega) (fun b e => by simp [Value.ownBlock] at e; omega)
            have o5 : OwnI w4 w1.heap.size v' ((x : Int) :: R) := by
              unfold OwnI
              rw [List.length_cons, List.map_cons, Nat.add_comm]
              exact hw4
            obtain ⟨a5, c5, rfl⟩ := o5.form
            have HO5 := Lib.hid o5
            clear hw4 hg4 o5 o3 o4
            go_wp2_with fail
            go_roundw
            case rel => exact ⟨k + 1, a5, c5, by omega, by go_num, by rw [HB.out, HRR.out], by rw [HB.out, ← HRR.out]; exact HO5.out, hb4⟩
            case measure => simp [intOf]; omega
        · have hd : ¬ ((bst k).length : Int) < ((rest x).length : Int) + 1 := by omega
          have HB := Lib.hid (show bst (k+1) = bst k by rw [HBT.out, if_neg hle])
          clear hle o4
          go_wp2_with fail
          go_roundw
          case rel => exact ⟨k + 1, av, cv, by omega, by go_num, by rw [HB.out], by rw [HB.out]; exact o3, bw3⟩
          case measure => simp [intOf]; omega
      · obtain rfl : k = es.length := by omega
        have HE : Hid (lng (lats xs) S = bst es.length) := by rw [Hid, HL.out, HBE.out, HR.out, lats_len]
        go_wp2_with fail
        refine bodyPost_ret (v := .slice av (bst es.length).length cv) (by simp [results, Try.results58, go_sem]) rfl ?_
        exact ⟨av, cv, by rw [HE.out], by rw [HE.out]; exact hown.mono bw1.size, bwr⟩

theorem l1In_any (n lo hi : Int) (w : World) :
    Calls Try.prog 91 #[.int .i64 n, .int .i64 lo, .int .i64 hi] w fun e w' => e = .returned (.bool (inB n lo hi)) ∧ w = w' := by
  go_enter Try.func91, Try.ntmps91
  go_wp2
  all_goals (go_ret; exact ⟨ret_bool (by simp [inB]; try omega), rfl⟩)
theorem l1In_is {n lo hi : Int} {b : Bool} (h : inB n lo hi = b) (w : World) (m : Nat) :
    Calls Try.prog 91 #[.int .i64 n, .int .i64 lo, .int .i64 hi] (w.drewN m) fun e w' => e = .returned (.bool b) ∧ ∃ k, w' = w.drewN k :=
  Calls.quiet_of_same ((l1In_any n lo hi (w.drewN m)).mono (fun e w' hh => ⟨by rw [← h]; exact hh.1, hh.2.symm⟩))

theorem l1All_any (a : Option Addr) (xs : List Int) (cap : Nat) (lo hi : Int) (w : World) (hx : Rd w a xs) :
    Calls Try.prog 92 #[.slice a xs.length cap, .int .i64 lo, .int .i64 hi] w fun e w' => e = .returned (.bool (allB xs lo hi)) ∧ w = w' := by
  have hlen := hx.len
  go_enter Try.func92, Try.ntmps92
  go_wp2_with fail
  go_loop [11] (fun i => ∃ k : Nat, k ≤ xs.length ∧ i = .int .i64 k ∧ allB (xs.take k) lo hi = true) (fun i => xs.length - (intOf i).toNat)
  case atStart => exact ⟨0, Nat.zero_le _, rfl, rfl⟩
  case round =>
    obtain ⟨k, hk, rfl, hall⟩ := hrel
    by_cases hlt : k < xs.length
    · obtain ⟨b, off, rfl, hbl, hc⟩ := hx.cell k hlt
      cases hin : inB (nth xs k) lo hi
      · have hf := Lib.hid (allB_false hlt hin)
        go_wp2_with (go_at_call 91; refine (l1In_any _ _ _ _).mono ?_; rintro e w' ⟨rfl, rfl⟩)
        go_ret
        exact ⟨ret_bool hf.out.symm, rfl⟩
      · go_wp2_with (go_at_call 91; refine (l1In_any _ _ _ _).mono ?_; rintro e w' ⟨rfl, rfl⟩)
        go_round
        case rel => exact ⟨k + 1, by omega, by go_num, by rw [allB_take _ _ _ _ hlt, hall, hin]; rfl⟩
        case measure => simp [intOf]; omega
    · go_wp2_with fail
      go_ret
      exact ⟨ret_bool (by rw [← hall, List.take_of_length_le (by omega)]), rfl⟩
theorem l1All_is {a : Option Addr} {xs : List Int} {cap : Nat} {lo hi : Int} {b : Bool} {w : World} (hx : Rd w a xs) (h : allB xs lo hi = b) (m : Nat) :
    Calls Try.prog 92 #[.slice a xs.length cap, .int .i64 lo, .int .i64 hi] (w.drewN m) fun e w' => e = .returned (.bool b) ∧ ∃ k, w' = w.drewN k :=
  Calls.quiet_of_same ((l1All_any a xs cap lo hi (w.drewN m) (hx.below (Joins.below_draws _ _ _))).mono (fun e w' hh => ⟨by rw [← h]; exact hh.1, hh.2.symm⟩))

theorem orRelation_any (n : Int) (a : Option Addr) (xs : List Int) (cap : Nat) (w : World) (hx : Rd w a xs) :
    Calls Try.prog 47 #[.agg #[.int .i64 n, .slice a xs.length cap]] w fun e w' => e = .returned (.bool (relB n xs)) ∧ Below w.heap.size w w' := by
  have hx1 := hx.alloc (.cells #[.int .i64 n, .slice a xs.length cap] 28)
  cases h1 : inB n 0 10
  · have HR : Hid (relB n xs = false) := by simp [Hid, relB, h1]
    go_enter Try.func47, Try.ntmps47
    go_wp2_with fail
    go_quiet ((go_at_call 91; exact l1In_is h1 _ _))
    go_wp2_with fail
    go_ret
    exact ⟨ret_bool HR.out.symm, (Below.refl _ _).alloc (Nat.le_refl _) _ |>.trans (Joins.below_draws _ _ _)⟩
  · have hn := inB_iff.1 h1
    cases h2 : ((xs.length : Int) == n)
    · have HR : Hid (relB n xs = false) := by
        have : ¬ (xs.length : Int) = n := by simpa using h2
        simp [Hid, relB, h1, this]
      go_enter Try.func47, Try.ntmps47
      go_wp2_with fail
      go_quiet ((go_at_call 91; exact l1In_is h1 _ _))
      go_wp2_with fail
      go_ret
      exact ⟨ret_bool HR.out.symm, (Below.refl _ _).alloc (Nat.le_refl _) _ |>.trans (Joins.below_draws _ _ _)⟩
    · cases h3 : allB xs 0 (wrap64 (wrap64 (2 ^ n.toNat) - 1))
      all_goals
        have HR : Hid (relB n xs = allB xs 0 (wrap64 (wrap64 (2 ^ n.toNat) - 1))) := by
          have : (xs.length : Int) = n := by simpa using h2
          simp only [Hid, relB, h1, this, full_eq hn.1 hn.2]
          simp
        have H3 := Lib.hid h3
        clear h3
        go_enter Try.func47, Try.ntmps47
        go_wp2_with fail
        go_quiet ((first | (go_at_call 91; exact l1In_is h1 _ _) | (go_at_call 92; exact l1All_is hx1 H3.out _)))
        go_wp2_with fail
        go_ret
        exact ⟨ret_bool (by rw [HR.out, H3.out]), (Below.refl _ _).alloc (Nat.le_refl _) _ |>.trans (Joins.below_draws _ _ _)⟩

theorem elem_at {n : Int} {xs : List Int} (hp : RelP n xs) {k : Nat} (hk : k < xs.length) {m : Nat} (hm : m < (elems (nth xs k).toNat).length) :
    ∃ i : Nat, i < xs.length ∧ hasB (nth xs k) i = true ∧ nth (elems (nth xs k).toNat) m = (i : Int) := by
  have h1 := hp.small k hk
  have h0 := hp.pos k hk
  obtain ⟨i, hb, e⟩ := (mem_elems (by omega)).1 (nth_mem hm)
  exact ⟨i, has_lt hp hk hb, hb, e⟩
theorem at_elem {n : Int} {xs : List Int} (hp : RelP n xs) {k : Nat} (hk : k < xs.length) {j : Nat} (h : hasB (nth xs k) j = true) :
    ∃ m, m < (elems (nth xs k).toNat).length ∧ nth (elems (nth xs k).toNat) m = (j : Int) := by
  have h1 := hp.small k hk
  have h0 := hp.pos k hk
  have : (j : Int) ∈ elems (nth xs k).toNat := (mem_elems (by omega)).2 ⟨j, h, rfl⟩
  obtain ⟨m, hm, e⟩ := mem_nth this
  exact ⟨m, hm, e⟩
theorem orGood_any (n : Int) (a : Option Addr) (xs : List Int) (cap : Nat) (w : World) (hx : Rd w a xs) :
    Calls Try.prog 51 #[.agg #[.int .i64 n, .slice a xs.length cap]] w fun e w' => e = .returned (.bool (ordB n xs)) ∧ Below w.heap.size w w' := by
  have hx1 := hx.alloc (.cells #[.int .i64 n, .slice a xs.length cap] 28)
  have hlen := hx.len
  cases hr : relB n xs
  · have HR : Hid (ordB n xs = false) := by simp [Hid, ordB, hr]
    go_enter Try.func51, Try.ntmps51
    go_wp2_with fail
    refine (orRelation_any _ _ _ _ _ hx1).mono ?_
    rintro e w1 ⟨rfl, hb1⟩
    go_wp2_with fail
    go_ret
    exact ⟨ret_bool HR.out.symm, Below.trans (by repeat (first | exact Below.refl _ _ | assumption | refine Below.alloc ?_ (by first | exact Nat.le_refl _ | (simp only [World.size_alloc, World.size_setCell, World.size_drew]; omega) | omega) _ | refine Below.setCell ?_ (by first | exact Nat.le_refl _ | (simp only [World.size_alloc, World.size_setCell, World.size_drew]; omega) | omega) _ | refine Below.drew ?_)) (hb1.mono (by first | (simp only [World.size_alloc, World.size_setCell, World.size_drew]; omega) | omega))⟩
  · have hp := relB_p hr
    go_enter Try.func51, Try.ntmps51
    go_wp2_with fail
    refine (orRelation_any _ _ _ _ _ hx1).mono ?_
    rintro e w1 ⟨rfl, hb1⟩
    have B1 := (Box2.new w _ _ _).below hb1
    have ⟨z1, c1, d1⟩ := B1
    have bw1 : Below w.heap.size w w1 := Below.trans (by repeat (first | exact Below.refl _ _ | assumption | refine Below.alloc ?_ (by first | exact Nat.le_refl _ | (simp only [World.size_alloc, World.size_setCell, World.size_drew]; omega) | omega) _ | refine Below.setCell ?_ (by first | exact Nat.le_refl _ | (simp only [World.size_alloc, World.size_setCell, World.size_drew]; omega) | omega) _ | refine Below.drew ?_)) (hb1.mono (by first | (simp only [World.size_alloc, World.size_setCell, World.size_drew]; omega) | omega))
    have HR := Lib.hid hr
    clear hb1
    go_wp2_with fail
    clear hr
    go_loopw [13] (fun i wr => ∃ k : Nat, k ≤ xs.length ∧ i = .int .i64 k ∧ (∀ j, j < k → okAtB xs j = true) ∧ Below w1.heap.size w1 wr) (fun i _ => xs.length - (intOf i).toNat)
    case atStart => exact ⟨0, Nat.zero_le _, rfl, fun j hj => by omega, Below.refl _ _⟩
    case round =>
      obtain ⟨k, hk, rfl, hall, hb⟩ := hrel
      have Br := B1.below hb
      have ⟨zr, cr, dr⟩ := Br
      have bwr := bw1.trans (hb.mono bw1.size)
      have HA := Lib.hid hall
      clear hall c1 d1
      by_cases hlt : k < xs.length
      · obtain ⟨b, off, rfl, hbl, hc⟩ := (hx.below bwr).cell k hlt
        have hpk := hp.pos k hlt
        have hsk := hp.small k hlt
        have hsk' : nth xs k ≤ 9223372036854775807 := by omega
        cases hin : hasB (nth xs k) k
        · go_wp2_with fail
          refine (orHas_any _ _ _ hpk hsk' (by omega)).mono ?_
          rintro e w' ⟨rfl, rfl⟩
          go_wp2_with fail
          refine (orList_any _ _ hpk hsk).mono ?_
          rintro e w2 ⟨a2, cap2, rfl, ho2, hb2⟩
          have ⟨z2, c2, d2⟩ := Br.below hb2
          have bw2 := bwr.trans (hb2.mono bwr.size)
          have hx2 := hx.below bw2
          have hr2 := ho2.rd
          have bk2 := hb.trans (hb2.mono hb.size)
          have hel := elems_len (nth xs k).toNat
          have HI := Lib.hid hin
          clear hin cr dr hc
          obtain ⟨es, hes⟩ : ∃ es, es = elems (nth xs k).toNat := ⟨_, rfl⟩
          rw [← hes] at ho2 hr2 hel
          have HES := Lib.hid hes
          rw [← hes]
          clear hes ho2 hb2
          go_wp2_with fail
          go_loop [24] (fun i => ∃ j : Nat, j ≤ es.length ∧ i = .int .i64 j ∧ (∀ m, m < j → sub (nth xs (nth es m).toNat).toNat (nth xs k).toNat = 0)) (fun i => es.length - (intOf i).toNat)
          case atStart => exact ⟨0, Nat.zero_le _, rfl, fun m hm => by omega⟩
          case round =>
            obtain ⟨j, hj, rfl, hin2⟩ := hrel
            have HIN := Lib.hid hin2
            clear hin2
            by_cases hjl : j < es.length
            · obtain ⟨b2, off2, rfl, hbl2, hc2⟩ := hr2.cell j hjl
              obtain ⟨i, hil, hib, hie⟩ : ∃ i : Nat, i < xs.length ∧ hasB (nth xs k) i = true ∧ nth es j = (i : Int) := by
                have := elem_at hp hlt (m := j) (by rw [← HES.out]; exact hjl)
                rw [← HES.out] at this
                exact this
              obtain ⟨b3, off3, e3, hbl3, hc3⟩ := hx2.cell i hil
              simp only [Option.some.injEq, Addr.mk.injEq, and_true] at e3
              obtain ⟨rfl, rfl⟩ := e3
              have hpi := hp.pos i hil
              have hsi := hp.small i hil
              have hsub := sub_i (a := nth xs i) (b := nth xs k) hpi (by omega) hpk (by omega)
              have HB := Lib.hid hib
              have HE := Lib.hid hie
              rw [hie] at hc2
              clear hib hie
              by_cases hz : sub (nth xs i).toNat (nth xs k).toNat = 0
              · have hne : (bits BinOp.andNot IntKind.i64 (nth xs i) (nth xs k) != 0) = false := by rw [hsub, hz]; rfl
                have HZ := Lib.hid hz
                clear hz hsub
                go_wp2_with fail
                go_round
                case rel =>
                  refine ⟨j + 1, by omega, by go_num, fun m hm => ?_⟩
                  by_cases e : m = j
                  · rw [e, HE.out, Int.toNat_natCast]; exact HZ.out
                  · exact HIN.out m (by omega)
                case measure => simp [intOf]; omega
              · have hne : (bits BinOp.andNot IntKind.i64 (nth xs i) (nth xs k) != 0) = true := by rw [hsub]; simp; omega
                have HN := Lib.hid (ordB_no (n := n) hlt (okAtB_sub hil HB.out hz))
                clear hz hsub
                go_wp2_with fail
                go_ret
                exact ⟨ret_bool HN.out.symm, bw2⟩
            · obtain rfl : j = es.length := by omega
              have hok : okAtB xs k = true := by
                rw [okAtB_iff]
                refine ⟨HI.out, fun j hj hbj => ?_⟩
                obtain ⟨m, hm, e⟩ := at_elem hp hlt hbj
                rw [← HES.out] at hm e
                have := HIN.out m hm
                rwa [e, Int.toNat_natCast] at this
              have HK := Lib.hid hok
              clear hok
              go_wp2_with fail
              go_roundw
              case rel =>
                refine ⟨k + 1, by omega, by go_num, fun j hj => ?_, bk2⟩
                by_cases e : j = k
                · rw [e]; exact HK.out
                · exact HA.out j (by omega)
              case measure => simp [intOf]; omega
        · have HN := Lib.hid (ordB_no (n := n) hlt (okAtB_has hin))
          go_wp2_with fail
          refine (orHas_any _ _ _ hpk hsk' (by omega)).mono ?_
          rintro e w' ⟨rfl, rfl⟩
          go_wp2_with fail
          go_ret
          exact ⟨ret_bool HN.out.symm, bwr⟩
      · obtain rfl : k = xs.length := by omega
        go_wp2_with fail
        go_ret
        exact ⟨ret_bool (ordB_iff.2 ⟨HR.out, HA.out⟩).symm, bwr⟩

set_option maxRecDepth 100000 in
set_option maxHeartbeats 1000000 in
theorem sChN_any (n : Int) (a : Option Addr) (xs : List Int) (cap : Nat) (w : World) (hn : -9223372036854775808 ≤ n ∧ n ≤ 9223372036854775807) (hx : Rd w a xs) :
    Calls Try.prog 25 #[.agg #[.int .i64 n, .slice a xs.length cap]] w fun e w' => ∃ a' cap', e = .returned (.tuple #[.slice a' (chV n xs).length cap', .bool (chB n xs)]) ∧ OwnI w' w.heap.size (.slice a' (chV n xs).length cap') (chV n xs) ∧ Below w.heap.size w w' := by
  have hb0 : Below w.heap.size w (w.alloc (.cells #[.int .i64 n, .slice a xs.length cap] 28)) := (by repeat (first | exact Below.refl _ _ | assumption | refine Below.alloc ?_ (by first | exact Nat.le_refl _ | (simp only [World.size_alloc, World.size_setCell, World.size_drew]; omega) | omega) _ | refine Below.setCell ?_ (by first | exact Nat.le_refl _ | (simp only [World.size_alloc, World.size_setCell, World.size_drew]; omega) | omega) _ | refine Below.drew ?_))
  have hx1 := hx.below hb0
  cases hr : ordB n xs
  · have H1 : Hid (chV n xs = []) := by simp [Hid, chV, chO, hr]
    have H2 : Hid (chB n xs = false) := by simp [Hid, chB, chO, hr]
    rw [H1.out, H2.out]
    go_enter Try.func25, Try.ntmps25
    go_wp2_with fail
    refine (orGood_any _ _ _ _ _ hx1).mono ?_
    rw [hr]
    rintro e w1 ⟨rfl, hb1⟩
    have bw1 : Below w.heap.size w w1 := Below.trans (by repeat (first | exact Below.refl _ _ | assumption | refine Below.alloc ?_ (by first | exact Nat.le_refl _ | (simp only [World.size_alloc, World.size_setCell, World.size_drew]; omega) | omega) _ | refine Below.setCell ?_ (by first | exact Nat.le_refl _ | (simp only [World.size_alloc, World.size_setCell, World.size_drew]; omega) | omega) _ | refine Below.drew ?_)) (hb1.mono (by first | (simp only [World.size_alloc, World.size_setCell, World.size_drew]; omega) | omega))
    go_wp2_with fail
    refine bodyPost_ret (v := .tuple #[.slice none 0 0, .bool false]) (by simp [results, Try.results25, go_sem]) rfl ?_
    exact ⟨none, 0, rfl, OwnI.nil _ _, bw1⟩
  · have hp := ord_rel hr
    have h10 : xs.length ≤ 10 := by have := hp.len; have := hp.n1; omega
    obtain rfl : n = (xs.length : Int) := hp.len.symm
    have hp1 := pow10 h10
    obtain ⟨p, hP⟩ : ∃ p : Nat, p = 2 ^ xs.length := ⟨_, rfl⟩
    have hpi : (p : Int) = 2 ^ xs.length := by rw [hP]; simp
    have hw : wrap64 (2 ^ xs.length) = (p : Int) := by rw [← hpi]; exact IntWalk.wrap64_in _ ⟨by omega, by omega⟩
    have hw' : IntKind.i64.wrap (2 ^ xs.length) = (p : Int) := by rw [i64_wrap]; exact hw
    obtain ⟨q, hq⟩ : ∃ q : Nat, q + 1 = p := ⟨p - 1, by omega⟩
    have hqq : (p : Int) - 1 = (q : Int) := by omega
    have hqw : IntKind.i64.wrap ((p : Int) - 1) = (q : Int) := by rw [hqq]; exact wrap64_small _ (by omega) (by omega)
    have hqw2 : wrap64 ((p : Int) - 1) = (q : Int) := by rw [← i64_wrap]; exact hqw
    have hM := antL_100 (xs.length : Int) xs
    have hant : antL (xs.length : Int) xs = lng (lats xs) q := by
      rw [antL, if_pos hr]; congr 1; omega
    have hnu := nu_cn (lim := (antL (xs.length : Int) xs).length) (apB_swp xs) xs.length [] (fun i hi => by simp at hi)
    have H1 : Hid (chV (xs.length : Int) xs = (nuS (apB xs) (lng (lats xs) q).length xs.length []).getD []) := by rw [Hid, chV, chO, if_pos hr, ← hnu, hant]
    have H2 : Hid (chB (xs.length : Int) xs = (nuS (apB xs) (lng (lats xs) q).length xs.length []).isSome) := by rw [Hid, chB, chO, if_pos hr, ← hnu, hant]
    rw [hant] at hM
    have HOL := Lib.hid (fun (w' : World) (hx' : Rd w' a xs) => orLarger_any (xs.length : Int) xs cap hp q a w' (by omega) hx')
    rw [H1.out, H2.out]
    obtain ⟨K, hK⟩ : ∃ K, K = lng (lats xs) q := ⟨_, rfl⟩
    rw [← hK] at HOL hM ⊢
    have HNU := Lib.hid (fun (w' : World) (hx' : Rd w' a xs) => orNum_any (xs.length : Int) a xs cap K.length w'.heap.size hp hM xs.length [] none 0 w' (by simp) (Nat.le_refl _) hx' (OwnI.nil _ _))
    obtain ⟨r, hrr⟩ : ∃ r, r = nuS (apB xs) K.length xs.length [] := ⟨_, rfl⟩
    rw [← hrr] at HNU ⊢
    clear hpi hP hq hqq hnu hant H1 H2 hK hrr hp1
    go_enter Try.func25, Try.ntmps25
    go_wp2_with fail
    refine (orGood_any _ _ _ _ _ hx1).mono ?_
    rw [hr]
    rintro e w1 ⟨rfl, hb1⟩
    have A1 := (Box2.new w _ _ _).below hb1
    have bw1 : Below w.heap.size w w1 := Below.trans (by repeat (first | exact Below.refl _ _ | assumption | refine Below.alloc ?_ (by first | exact Nat.le_refl _ | (simp only [World.size_alloc, World.size_setCell, World.size_drew]; omega) | omega) _ | refine Below.setCell ?_ (by first | exact Nat.le_refl _ | (simp only [World.size_alloc, World.size_setCell, World.size_drew]; omega) | omega) _ | refine Below.drew ?_)) (hb1.mono (by first | (simp only [World.size_alloc, World.size_setCell, World.size_drew]; omega) | omega))
    have b1s := bw1.size
    have ⟨zA, cA, dA⟩ := A1
    clear hb1 hx1 hr
    go_wp2_with fail
    go_region_held3 (fun w' => w'.cell? ⟨w.heap.size, 0, none⟩ = some (.int .i64 (xs.length : Int)) ∧ w'.cell? ⟨w.heap.size, 1, none⟩ = some (.slice a xs.length cap))
      (first | exact ⟨A4.2.1, A4.2.2⟩ | exact ⟨A3.2.1, A3.2.2⟩ | go_keep)
      (first | (have _g := ht3; go_at_call 57; refine (HNU.out _ (hx.below (bw1.trans (ht3.mono b1s)))).mono ?_; rintro e w4 ⟨hb4, a4, c4, rfl, ho4⟩; have ht4 := ht3.trans (hb4.mono ht3.size); have A4 := A3.below hb4) | (go_at_call 58; refine (HOL.out _ (hx.below (bw1.trans ((Joins.below_draws _ _ _).mono b1s)))).mono ?_; rintro e w3 ⟨a3, c3, rfl, ho3, hb3⟩; have ht3 : Below w1.heap.size w1 w3 := (Joins.below_draws _ _ _).trans hb3; have A3 := A1.below ht3))
    all_goals
      go_wp2_with fail
      refine bodyPost_ret (v := .tuple #[.slice a4 (r.getD []).length c4, .bool r.isSome]) (by simp [results, Try.results25, go_sem]) rfl ?_
      exact ⟨a4, c4, rfl, ho4.mono (by have := ht3.size; omega), bw1.trans (ht4.mono b1s)⟩

theorem hasElement_any (s i : Int) (w : World) (h0 : 0 ≤ s) (h1 : s ≤ 9223372036854775807) (hi : 0 ≤ i) :
    Calls Try.prog 56 #[.int .i64 s, .int .i64 i] w fun e w' => e = .returned (.bool (hasB s i)) ∧ w = w' := by
  have H := Lib.hid (has_and h0 h1 hi)
  go_enter Try.func56, Try.ntmps56
  go_wp2
  go_ret
  exact ⟨ret_bool H.out, rfl⟩

theorem belowSet_any (n : Int) (a : Option Addr) (xs : List Int) (cap : Nat) (i : Int) (w : World) (hx : Rd w a xs) (hr : RelP n xs) (hi : 0 ≤ i) :
    Calls Try.prog 101 #[.agg #[.int .i64 n, .slice a xs.length cap], .int .i64 i] w fun e w' => e = .returned (.int .i64 (belowTo xs i xs.length)) ∧ Below w.heap.size w w' := by
  have hx1 := hx.alloc (.cells #[.int .i64 n, .slice a xs.length cap] 28)
  have hn : xs.length ≤ 10 := by have := hr.len; have := hr.n1; omega
  go_enter Try.func101, Try.ntmps101
  go_wp2_with fail
  go_loop [5, 11] (fun s i' => ∃ k : Nat, k ≤ xs.length ∧ i' = .int .i64 k ∧ s = .int .i64 (belowTo xs i k)) (fun _ i => xs.length - (intOf i).toNat)
  case atStart => exact ⟨0, Nat.zero_le _, rfl, rfl⟩
  case round =>
    obtain ⟨k, hk, rfl, rfl⟩ := hrel
    by_cases hlt : k < xs.length
    · obtain ⟨b, off, rfl, hbl, hc⟩ := hx1.cell k hlt
      obtain ⟨b', off', e', hbl', hc'⟩ := hx.cell k hlt
      simp only [Option.some.injEq, Addr.mk.injEq, and_true] at e'
      obtain ⟨rfl, rfl⟩ := e'
      have hpk := hr.pos k hlt
      have hsk : nth xs k ≤ 9223372036854775807 := by have := hr.small k hlt; omega
      have hbs := belowTo_small xs i (k := k) (by omega)
      have hor := Lib.hid (or_bit (b := belowTo xs i k) (k := k) (by omega) (by omega))
      clear hbs
      cases hin : hasB (nth xs k) i
      · go_wp2_with (go_at_call 56; refine (hasElement_any _ _ _ hpk hsk hi).mono ?_; rintro e w' ⟨rfl, rfl⟩)
        go_round
        case rel => exact ⟨k + 1, by omega, by go_num, by simp [belowTo, hin]⟩
        case measure => simp [intOf]; omega
      · go_wp2_with (go_at_call 56; refine (hasElement_any _ _ _ hpk hsk hi).mono ?_; rintro e w' ⟨rfl, rfl⟩)
        go_round
        case rel => exact ⟨k + 1, by omega, by go_num, val_int (by rw [hor.out]; simp [belowTo, hin])⟩
        case measure => simp [intOf]; omega
    · obtain rfl : k = xs.length := by omega
      go_wp2_with fail
      go_ret
      exact ⟨rfl, (by repeat (first | exact Below.refl _ _ | assumption | refine Below.alloc ?_ (by first | exact Nat.le_refl _ | (simp only [World.size_alloc, World.size_setCell, World.size_drew]; omega) | omega) _ | refine Below.setCell ?_ (by first | exact Nat.le_refl _ | (simp only [World.size_alloc, World.size_setCell, World.size_drew]; omega) | omega) _ | refine Below.drew ?_))⟩

theorem fullSet_any (n : Int) (w : World) (h0 : 0 ≤ n) (h1 : n ≤ 10) :
    Calls Try.prog 55 #[.int .i64 n] w fun e w' => e = .returned (.int .i64 (2 ^ n.toNat - 1)) ∧ w = w' := by
  have hf := Lib.hid (full_eq h0 h1)
  go_enter Try.func55, Try.ntmps55
  go_wp2
  go_ret
  exact ⟨ret_int hf.out, rfl⟩

theorem indifferentSet_any (n : Int) (a : Option Addr) (xs : List Int) (cap : Nat) (k : Nat) (w : World) (hx : Rd w a xs) (hr : RelP n xs) (hk : k < xs.length) :
    Calls Try.prog 103 #[.agg #[.int .i64 n, .slice a xs.length cap], .int .i64 k] w fun e w' => e = .returned (.int .i64 (freeN xs k)) ∧ Below w.heap.size w w' := by
  have hx1 := hx.alloc (.cells #[.int .i64 n, .slice a xs.length cap] 28)
  have hn := hr.n1
  have h0 := hr.n0
  have hk0 : (0 : Int) ≤ (k : Int) := by omega
  have hk1 : (k : Int) < (xs.length : Int) := by omega
  have HF := Lib.hid (free_val2 hr hk)
  obtain ⟨b, off, rfl, hbl, hc⟩ := hx1.cell k hk
  obtain ⟨b', off', e', hbl', hc'⟩ := hx.cell k hk
  simp only [Option.some.injEq, Addr.mk.injEq, and_true] at e'
  obtain ⟨rfl, rfl⟩ := e'
  go_enter Try.func103, Try.ntmps103
  go_wp2_with fail
  go_region_held3 (fun w' => w'.cell? ⟨w.heap.size, 0, none⟩ = some (.int .i64 n) ∧ w'.cell? ⟨w.heap.size, 1, none⟩ = some (.slice (some ⟨b, off, none⟩) xs.length cap) ∧ w'.cell? ⟨b, off + k, none⟩ = some (.int .i64 (nth xs k)))
    (first | exact ⟨P1.2.1, P1.2.2, q1⟩ | go_keep)
    (first | (go_at_call 55; refine (fullSet_any _ _ h0 hn).mono ?_; rintro e w' ⟨rfl, rfl⟩) | (go_at_call 101; refine (belowSet_any _ _ _ _ _ _ (hx1.below (Joins.below_draws _ _ _)) hr (by omega)).mono ?_; rintro e w1 ⟨rfl, hb1⟩; have ht1 : Below (w.alloc (.cells #[.int .i64 n, .slice (some ⟨b, off, none⟩) xs.length cap] 28)).heap.size (w.alloc (.cells #[.int .i64 n, .slice (some ⟨b, off, none⟩) xs.length cap] 28)) w1 := (Joins.below_draws _ _ _).trans hb1; have P1 := (Box2.new w _ _ _).below ht1; have q1 := (ht1.cell (p := ⟨b, off + k, none⟩) hbl).trans hc))
  go_wp2_with fail
  go_ret
  exact ⟨ret_int (by rw [show min k 64 = k from by have := hr.len; omega, ← HF.out]; simp only [i64_wrap]), Below.trans (by repeat (first | exact Below.refl _ _ | assumption | refine Below.alloc ?_ (by first | exact Nat.le_refl _ | (simp only [World.size_alloc, World.size_setCell, World.size_drew]; omega) | omega) _ | refine Below.setCell ?_ (by first | exact Nat.le_refl _ | (simp only [World.size_alloc, World.size_setCell, World.size_drew]; omega) | omega) _ | refine Below.drew ?_)) (ht1.mono (by first | (simp only [World.size_alloc, World.size_setCell, World.size_drew]; omega) | omega))⟩

set_option maxRecDepth 100000 in
theorem lastApart_any (n : Int) (a : Option Addr) (xs : List Int) (cap : Nat) (g : Nat) (L : List Int) (cp : Nat) (w : World) (hx : Rd w a xs) (hp : RelP n xs) (hz : Rd w (some ⟨g, 0, none⟩) L) (hL0 : 0 < L.length) (hL : L.length ≤ xs.length) (hcp : L.length ≤ cp) (hcm : cp ≤ 9223372036854775807) :
    Calls Try.prog 62 #[.agg #[.int .i64 n, .slice a xs.length cap], .slice (some ⟨g, 0, none⟩) L.length cp] w fun e w' => e = .returned (.bool (apB xs L)) ∧ Below w.heap.size w w' := by
  have hl10 : xs.length ≤ 10 := by have := hp.len; have := hp.n1; omega
  obtain ⟨e, he⟩ : ∃ e, e = L.length - 1 := ⟨_, rfl⟩
  have hel : e < L.length := by omega
  have hex : e < xs.length := by omega
  have hsub : (L.length : Int) - 1 = (e : Int) := by omega
  have HE := Lib.hid he
  have A0 := Box2.new w (.int .i64 n) (.slice a xs.length cap) 28
  have bw0 : Below w.heap.size w (w.alloc (.cells #[.int .i64 n, .slice a xs.length cap] 28)) := (by repeat (first | exact Below.refl _ _ | assumption | refine Below.alloc ?_ (by first | exact Nat.le_refl _ | (simp only [World.size_alloc, World.size_setCell, World.size_drew]; omega) | omega) _ | refine Below.setCell ?_ (by first | exact Nat.le_refl _ | (simp only [World.size_alloc, World.size_setCell, World.size_drew]; omega) | omega) _ | refine Below.drew ?_))
  have hfs := freeN_small hp e
  have HIN := Lib.hid (indifferentSet_any n a xs cap e _ (hx.below bw0) hp hex)
  obtain ⟨S, hS⟩ : ∃ S, S = freeN xs e := ⟨_, rfl⟩
  rw [← hS] at hfs HIN
  have HS := Lib.hid hS
  have HZ := Lib.hid hz
  have e0 : (0 : Int) ≤ (e : Int) := by omega
  have e1 : (e : Int) ≤ (cp : Int) := by omega
  have e2 : (e : Int) < (L.length : Int) := by omega
  clear he hS hz
  go_enter Try.func62, Try.ntmps62
  go_wp2_with fail
  refine HIN.out.mono ?_
  rintro e' w1 ⟨rfl, hb1⟩
  have bw1 := bw0.trans (hb1.mono bw0.size)
  have hr1 := HZ.out.below bw1
  clear hb1
  go_wp2_with fail
  go_loop [19] (fun i => ∃ k : Nat, k ≤ e ∧ i = .int .i64 k ∧ (∀ j, j < k → apE xs L j = true)) (fun i => e - (intOf i).toNat)
  case atStart => exact ⟨0, Nat.zero_le _, rfl, fun j hj => by omega⟩
  case round =>
    obtain ⟨k, hk, rfl, hall⟩ := hrel
    have HA := Lib.hid hall
    clear hall
    by_cases hlt : k < e
    · obtain ⟨b1, off1, e9, hbl1, hck⟩ := hr1.cell k (by omega)
      simp only [Option.some.injEq, Addr.mk.injEq, and_true] at e9
      obtain ⟨rfl, rfl⟩ := e9
      try rw [Nat.zero_add] at hck
      obtain ⟨b2, off2, e8, hbl2, hce⟩ := hr1.cell e hel
      simp only [Option.some.injEq, Addr.mk.injEq, and_true] at e8
      obtain ⟨rfl, rfl⟩ := e8
      try rw [Nat.zero_add] at hce
      have HG : Hid (apE xs L k = !(nth L k == nth L e && S.testBit k)) := by rw [Hid, apE, ← HE.out, ← HS.out]
      have S0 : (0 : Int) ≤ (S : Int) := by omega
      have S1 : (S : Int) ≤ 9223372036854775807 := by omega
      have k0 : (0 : Int) ≤ (k : Int) := by omega
      cases hd : (nth L k == nth L e)
      · have HY : Hid (apE xs L k = true) := by rw [Hid, HG.out, hd]; rfl
        go_wp2_with fail
        go_round
        case rel =>
          refine ⟨k + 1, by omega, by go_num, fun j hj => ?_⟩
          by_cases e : j = k
          · rw [e]; exact HY.out
          · exact HA.out j (by omega)
        case measure => simp [intOf]; omega
      · cases hh : hasB (S : Int) (k : Int)
        · have HY : Hid (apE xs L k = true) := by
            have : S.testBit k = false := hh
            rw [Hid, HG.out, hd, this]; rfl
          have HH := Lib.hid hh
          go_wp2_with fail
          refine (hasElement_any _ _ _ S0 S1 k0).mono ?_
          rw [HH.out]
          rintro e' w' ⟨rfl, rfl⟩
          go_wp2_with fail
          go_round
          case rel =>
            refine ⟨k + 1, by omega, by go_num, fun j hj => ?_⟩
            by_cases e : j = k
            · rw [e]; exact HY.out
            · exact HA.out j (by omega)
          case measure => simp [intOf]; omega
        · have HN := Lib.hid (apB_no (xs := xs) (L := L) (i := k) (by rw [← HE.out]; exact hlt) (by
            have : S.testBit k = true := hh
            rw [HG.out, hd, this]; rfl))
          have HH := Lib.hid hh
          go_wp2_with fail
          refine (hasElement_any _ _ _ S0 S1 k0).mono ?_
          rw [HH.out]
          rintro e' w' ⟨rfl, rfl⟩
          go_wp2_with fail
          go_ret
          exact ⟨ret_bool HN.out.symm, bw1⟩
    · have HY : Hid (apB xs L = true) := apB_iff.2 (fun i hi => HA.out i (by rw [← HE.out] at hi; omega))
      go_wp2_with fail
      go_ret
      exact ⟨ret_bool HY.out.symm, bw1⟩

theorem chFits_any (n : Int) (a : Option Addr) (xs : List Int) (cap : Nat) (pb : Nat) (g : Nat) (L : List Int) (cp : Nat) (w : World) (hA : Box2 w pb (.int .i64 n) (.slice a xs.length cap)) (hx : Rd w a xs) (hp : RelP n xs) (hz : Rd w (some ⟨g, 0, none⟩) L) (hL0 : 0 < L.length) (hL : L.length ≤ xs.length) (hcp : L.length ≤ cp) (hcm : cp ≤ 9223372036854775807) :
    Calls Try.prog 61 #[.slice (some ⟨g, 0, none⟩) L.length cp, .pointer (some ⟨pb, 0, none⟩)] w fun e w' => e = .returned (.bool (apB xs L)) ∧ Below w.heap.size w w' := by
  have ⟨zA, cA, dA⟩ := hA
  have HC := Lib.hid (lastApart_any n a xs cap g L cp w hx hp hz hL0 hL hcp hcm)
  go_enter Try.func61, Try.ntmps61
  go_wp2_with fail
  refine HC.out.mono ?_
  rintro e w1 ⟨rfl, hb⟩
  go_wp2_with fail
  go_ret
  exact ⟨rfl, hb⟩

theorem OwnI.init {w : World} {B g n cap : Nat} {xs : List Int} {x : Int} (h : OwnI w B (.slice (some ⟨g, 0, none⟩) n cap) (xs ++ [x])) : OwnI w B (.slice (some ⟨g, 0, none⟩) xs.length cap) xs := by
  rcases h.2 with ⟨e, _⟩ | ⟨g', cap', cur, e, hb, hg, hn, hm, hs, ht⟩
  · cases e
  · simp only [Value.slice.injEq, Option.some.injEq, Addr.mk.injEq, and_true] at e
    obtain ⟨rfl, _, rfl⟩ := e
    rw [List.length_append, List.length_singleton] at hn ht
    refine ⟨by simp, .inr ⟨_, _, cur, rfl, hb, hg, by omega, hm, hs, ?_⟩⟩
    have h1 := congrArg (List.take xs.length) ht
    rw [List.take_take, show min xs.length ((xs.length + 1) * 1) = xs.length * 1 by omega, List.map_append] at h1
    rw [h1, List.take_append_of_le_length (by simp), List.take_of_length_le (by simp)]

/-- a function value that tells of a list in a buffer whether it fits -/
def FitsV (w0 : World) (B : Nat) (fn : Nat) (caps : Array Value) (F : List Int → Bool) (lim L : Nat) : Prop :=
  ∀ (l : List Int) (g cap : Nat) (w' : World), 0 < l.length → l.length ≤ L → LtL lim l → Below B w0 w' → OwnI w' B (.slice (some ⟨g, 0, none⟩) l.length cap) l → Calls Try.prog fn (#[.slice (some ⟨g, 0, none⟩) l.length cap] ++ caps) w' fun e w'' => e = .returned (.bool (F l)) ∧ Below w'.heap.size w' w''
set_option maxRecDepth 100000 in
set_option maxHeartbeats 4000000 in
theorem cn_any (w0 : World) (B g cap : Nat) (fn : Nat) (caps : Array Value) (F : List Int → Bool) (lim L : Nat) (hlim : lim ≤ 2000) (hL : L ≤ 36) (hcap : L ≤ cap) (hB0 : B ≤ w0.heap.size) (hE : ∀ args w, (callFunc fn args).run Try.prog w = .ok (.enter fn args) w) (hF : FitsV w0 B fn caps F lim L) :
    ∀ (d : Nat) (l : List Int) (w : World), l.length + d = L → LtL lim l → Below B w0 w → OwnI w B (.slice (some ⟨g, 0, none⟩) l.length cap) l →
    Calls Try.prog 60 #[.int .i64 (L : Int), .int .i64 (lim : Int), .slice (some ⟨g, 0, none⟩) l.length cap, .func (.func fn) #[] caps] w (CnPost w0 B g cap l.length L l (cnS F lim d l)) := by
  intro d
  induction d with
  | zero =>
    intro l w hl hlt hb ho
    have hz : ((l.length : Int) == (L : Int)) = true := by simp; omega
    have HP : Hid (CnPost w0 B g cap l.length L l (cnS F lim 0 l) (.returned (.tuple #[.slice (some ⟨g, 0, none⟩) l.length cap, .bool true])) w) := by
      have e : l.length = L := by omega
      refine ⟨hb, .inl ⟨l, rfl, e, by rw [e], ?_⟩⟩
      rw [← e]; exact ho
    clear hb ho hl hlt
    go_enter Try.func60, Try.ntmps60
    go_wp2_with fail
    exact bodyPost_ret (v := .tuple #[.slice (some ⟨g, 0, none⟩) l.length cap, .bool true]) (by simp [results, Try.results60, go_sem]) rfl HP.out
  | succ d ih =>
    intro l w hl hlt hb ho
    obtain ⟨i0, hi, hz0, hz1, hz2⟩ := info_parts infoInt
    have hz : ((l.length : Int) == (L : Int)) = false := by simp; omega
    have HIH := Lib.hid ih
    have HLT := Lib.hid hlt
    have HBW := Lib.hid hb
    have HO := Lib.hid ho
    have hll : l.length < L := by omega
    have HUN : Hid (∀ k, k ≤ l.length → unTo l k ≤ lim) := fun k hk => unTo_le hlt k hk
    have HLD : Hid (l.length + 1 + d = L) := by show l.length + 1 + d = L; omega
    have hrd := ho.rd
    clear ih hlt hb ho hl
    go_enter Try.func60, Try.ntmps60
    go_wp2_with fail
    go_loop [10, 24] (fun u i => ∃ k : Nat, k ≤ l.length ∧ i = .int .i64 k ∧ u = .int .i64 ((unTo l k : Nat) : Int)) (fun _ i => l.length - (intOf i).toNat)
    case atStart => exact ⟨0, Nat.zero_le _, rfl, rfl⟩
    case round =>
      obtain ⟨k, hk, rfl, rfl⟩ := hrel
      by_cases hlk : k < l.length
      · obtain ⟨b, off, e, hbl, hc⟩ := hrd.cell k hlk
        simp only [Option.some.injEq, Addr.mk.injEq, and_true] at e
        obtain ⟨rfl, rfl⟩ := e
        try rw [Nat.zero_add] at hc
        have ⟨x0, x1⟩ := HLT.out k hlk
        have hu := HUN.out k hk
        have HU : Hid (unTo l (k+1) = max (unTo l k) ((nth l k).toNat + 1)) := rfl
        rcases Nat.lt_or_ge (unTo l k) ((nth l k).toNat + 1) with hc1 | hc1
        · have h1 : ((unTo l k : Nat) : Int) < nth l k + 1 := by omega
          have HU2 : Hid (((unTo l (k+1) : Nat) : Int) = nth l k + 1) := by have := HU.out; show _ = _; omega
          clear hc1
          go_wp2_with fail
          all_goals
            go_round
            case rel => exact ⟨k + 1, by omega, by go_num, val_int (by rw [HU2.out])⟩
            case measure => simp [intOf] <;> omega
        · have h1 : nth l k + 1 ≤ ((unTo l k : Nat) : Int) := by omega
          have HU2 : Hid (((unTo l (k+1) : Nat) : Int) = ((unTo l k : Nat) : Int)) := by have := HU.out; show _ = _; omega
          clear hc1
          go_wp2_with fail
          all_goals
            go_round
            case rel => exact ⟨k + 1, by omega, by go_num, val_int (by rw [HU2.out])⟩
            case measure => simp [intOf] <;> omega
      · have hun := HUN.out l.length (Nat.le_refl _)
        have hkl : k = l.length := by omega
        rw [hkl]
        clear hk hlk hkl
        obtain ⟨U, hU⟩ : ∃ U, U = unTo l l.length := ⟨_, rfl⟩
        rw [← hU] at hun ⊢
        obtain ⟨M, hM⟩ : ∃ M, M = min lim (U + 1) := ⟨_, rfl⟩
        have HR : Hid (cnS F lim (d+1) l = find1 (fun x => if F (l ++ [(x : Int)]) then cnS F lim d (l ++ [(x : Int)]) else none) M) := by rw [Hid, cnS, hM, hU]
        have hMl : M ≤ lim := by omega
        have hMi : min (lim : Int) ((U : Int) + 1) = (M : Int) := by omega
        have HMI := Lib.hid hMi
        have hm3 : M ≤ U + 1 := by omega
        have hm4 : lim ≤ M ∨ U + 1 ≤ M := by omega
        have HM4 := Lib.hid hm4
        clear hU hM hMi hm4
        obtain ⟨G, hG⟩ : ∃ G : Nat → Option (List Int), G = fun x : Nat => if F (l ++ [(x : Int)]) then cnS F lim d (l ++ [(x : Int)]) else none := ⟨_, rfl⟩
        have HG : Hid (∀ x : Nat, G x = if F (l ++ [(x : Int)]) then cnS F lim d (l ++ [(x : Int)]) else none) := fun x => by rw [hG]
        rw [← hG] at HR
        clear hG
        rcases Nat.lt_or_ge (U + 1) lim with hLU | hLU
        · have hMU : M = U + 1 := by have := HM4.out; omega
          have h0 : (U : Int) + 1 < (lim : Int) := by omega
          go_wp2_with fail
          rw [show (U : Int) + 1 = (M : Int) by omega]
          clear hMU h0 hLU

          go_loopw [37] (fun i wq => ∃ k : Nat, k ≤ M ∧ i = .int .i64 k ∧ OwnI wq B (.slice (some ⟨g, 0, none⟩) l.length cap) l ∧ Below B w0 wq ∧ (∀ j, j < k → G j = none)) (fun i _ => M - (intOf i).toNat)
          case atStart => exact ⟨0, Nat.zero_le _, rfl, HO.out, HBW.out, fun j hj => by omega⟩
          case round =>
            obtain ⟨k, hk, rfl, hoq, hbq, hno⟩ := hrel
            have HNO := Lib.hid hno
            have HBQ := Lib.hid hbq
            have hbs := Nat.le_trans hB0 hbq.size
            clear hno
            by_cases hkM : k < M
            · have h1 : (k : Int) < (M : Int) := by omega
              have hkl : k < lim := by omega
              have HL1 := Lib.hid (HLT.out.snoc hkl)
              have HLN : Hid ((l ++ [(k : Int)]).length = l.length + 1) := by simp [Hid]
              have HGK := Lib.hid (HG.out k)
              clear hk
              go_wp2_with (at_builtin; refine wpList_append_fits _ rfl _ _ 22 rfl B 3 i0 1 Try.underlying22 hi hz1 g l.length cap (l.map (Value.int .i64)) rfl (by have h := hoq.alloc (.cells #[.int .i64 (k : Int)] 3); unfold OwnI at h; exact h) ⟨wr.heap.size, 0, none⟩ 1 1 [.int .i64 (k : Int)] rfl rfl (cell_one_new _ _ _) (by intro u hu; simp at hu; subst hu; rfl) (by omega) ?_)
              intro w3 hown3 hgrow
              have hU3 := (hoq.lt g rfl).1
              have hg2 := grown_alloc_set hgrow
              have b3 : Below B w0 w3 := HBQ.out.trans (grown_below hg2 _ hU3 hbs)
              have o3 : OwnI w3 B (.slice (some ⟨g, 0, none⟩) (l ++ [(k : Int)]).length cap) (l ++ [(k : Int)]) := by
                unfold OwnI
                rw [List.length_append, List.map_append]
                exact hown3
              have HB3 := Lib.hid b3
              have HO3 := Lib.hid o3
              have hb3 := Nat.le_trans hB0 b3.size
              have HC := Lib.hid (hF (l ++ [(k : Int)]) g cap w3 (by simp) (by simp; omega) HL1.out b3 o3)
              clear hown3 hgrow hg2 b3 o3 hoq hbq
              obtain ⟨P, hP⟩ : ∃ P, P = l ++ [(k : Int)] := ⟨_, rfl⟩
              rw [← hP] at HL1 HLN HGK HO3 HC
              have HPE := Lib.hid hP
              clear hP
              rw [HLN.out] at HC HO3
              go_wp2_with fail
              refine HC.out.mono ?_
              rintro e w4 ⟨rfl, hb4⟩
              have O4 := HO3.out.below hb4 (Nat.le_refl _)
              have B4 := HB3.out.trans (hb4.mono hb3)
              have HO4 := Lib.hid O4
              have HB4 := Lib.hid B4
              clear O4 B4 hb4
              cases hFP : F P
              · go_wp2_with fail
                have O5 := HO4.out
                rw [HPE.out] at O5
                have O6 := O5.init
                have HN6 : Hid (∀ j, j < k + 1 → G j = none) := by
                  intro j hj
                  by_cases e : j = k
                  · rw [e, HGK.out, hFP]; rfl
                  · exact HNO.out j (by omega)
                go_roundw
                case rel => exact ⟨k + 1, by omega, by go_num, O6, HB4.out, HN6.out⟩
                case measure => simp [intOf]; omega
              · have HC2 := Lib.hid (HIH.out P w4 (by rw [HLN.out]; exact HLD.out) HL1.out HB4.out (by rw [HLN.out]; exact HO4.out))
                rw [HLN.out] at HC2
                go_wp2_with fail
                refine HC2.out.mono ?_
                rintro e w5 ⟨hb5, ⟨ys, hys, hyl, rfl, ho5⟩ | ⟨hys, rfl, ho5⟩⟩
                · have HPO : Hid (CnPost w0 B g cap l.length L l (cnS F lim (d+1) l) (.returned (.tuple #[.slice (some ⟨g, 0, none⟩) L cap, .bool true])) w5) := by
                    refine ⟨hb5, .inl ⟨ys, ?_, hyl, rfl, ho5⟩⟩
                    rw [HR.out]
                    exact find1_some hkM (by rw [HGK.out, hFP]; exact hys) HNO.out
                  clear ho5 hb5
                  go_wp2_with fail
                  exact bodyPost_ret (v := .tuple #[.slice (some ⟨g, 0, none⟩) L cap, .bool true]) (by simp [results, Try.results60, go_sem]) rfl HPO.out
                · rw [HPE.out] at ho5
                  have O6 := ho5.init
                  have HO6 := Lib.hid O6
                  have HB6 := Lib.hid hb5
                  clear O6 ho5 hb5
                  have HN6 : Hid (∀ j, j < k + 1 → G j = none) := by
                    intro j hj
                    by_cases e : j = k
                    · rw [e, HGK.out, hFP]; exact hys
                    · exact HNO.out j (by omega)
                  go_wp2_with fail
                  go_roundw
                  case rel => exact ⟨k + 1, by omega, by go_num, HO6.out, HB6.out, HN6.out⟩
                  case measure => simp [intOf]; omega
            · have hkE : k = M := by omega
              have HPO : Hid (CnPost w0 B g cap l.length L l (cnS F lim (d+1) l) (.returned (.tuple #[.slice none 0 0, .bool false])) wr) := by
                refine ⟨HBQ.out, .inr ⟨?_, rfl, hoq⟩⟩
                rw [HR.out]
                exact find1_none (fun j hj => HNO.out j (by omega))
              have h1 : ¬ (k : Int) < (M : Int) := by omega
              clear hoq hbq
              go_wp2_with fail
              exact bodyPost_ret (v := .tuple #[.slice none 0 0, .bool false]) (by simp [results, Try.results60, go_sem]) rfl HPO.out
        · have hMU : lim = M := by have := HM4.out; omega
          have h0 : ¬ (U : Int) + 1 < (lim : Int) := by omega
          have h00 : (lim : Int) ≤ (U : Int) + 1 := by omega
          rw [← hMU] at HR
          clear hMU HMI hm3 HM4 hMl
          go_wp2_with fail
          clear h0 h00 hLU

          go_loopw [37] (fun i wq => ∃ k : Nat, k ≤ lim ∧ i = .int .i64 k ∧ OwnI wq B (.slice (some ⟨g, 0, none⟩) l.length cap) l ∧ Below B w0 wq ∧ (∀ j, j < k → G j = none)) (fun i _ => lim - (intOf i).toNat)
          case atStart => exact ⟨0, Nat.zero_le _, rfl, HO.out, HBW.out, fun j hj => by omega⟩
          case round =>
            obtain ⟨k, hk, rfl, hoq, hbq, hno⟩ := hrel
            have HNO := Lib.hid hno
            have HBQ := Lib.hid hbq
            have hbs := Nat.le_trans hB0 hbq.size
            clear hno
            by_cases hkM : k < lim
            · have h1 : (k : Int) < (lim : Int) := by omega
              have hkl : k < lim := by omega
              have HL1 := Lib.hid (HLT.out.snoc hkl)
              have HLN : Hid ((l ++ [(k : Int)]).length = l.length + 1) := by simp [Hid]
              have HGK := Lib.hid (HG.out k)
              clear hk
              go_wp2_with (at_builtin; refine wpList_append_fits _ rfl _ _ 22 rfl B 3 i0 1 Try.underlying22 hi hz1 g l.length cap (l.map (Value.int .i64)) rfl (by have h := hoq.alloc (.cells #[.int .i64 (k : Int)] 3); unfold OwnI at h; exact h) ⟨wr.heap.size, 0, none⟩ 1 1 [.int .i64 (k : Int)] rfl rfl (cell_one_new _ _ _) (by intro u hu; simp at hu; subst hu; rfl) (by omega) ?_)
              intro w3 hown3 hgrow
              have hU3 := (hoq.lt g rfl).1
              have hg2 := grown_alloc_set hgrow
              have b3 : Below B w0 w3 := HBQ.out.trans (grown_below hg2 _ hU3 hbs)
              have o3 : OwnI w3 B (.slice (some ⟨g, 0, none⟩) (l ++ [(k : Int)]).length cap) (l ++ [(k : Int)]) := by
                unfold OwnI
                rw [List.length_append, List.map_append]
                exact hown3
              have HB3 := Lib.hid b3
              have HO3 := Lib.hid o3
              have hb3 := Nat.le_trans hB0 b3.size
              have HC := Lib.hid (hF (l ++ [(k : Int)]) g cap w3 (by simp) (by simp; omega) HL1.out b3 o3)
              clear hown3 hgrow hg2 b3 o3 hoq hbq
              obtain ⟨P, hP⟩ : ∃ P, P = l ++ [(k : Int)] := ⟨_, rfl⟩
              rw [← hP] at HL1 HLN HGK HO3 HC
              have HPE := Lib.hid hP
              clear hP
              rw [HLN.out] at HC HO3
              go_wp2_with fail
              refine HC.out.mono ?_
              rintro e w4 ⟨rfl, hb4⟩
              have O4 := HO3.out.below hb4 (Nat.le_refl _)
              have B4 := HB3.out.trans (hb4.mono hb3)
              have HO4 := Lib.hid O4
              have HB4 := Lib.hid B4
              clear O4 B4 hb4
              cases hFP : F P
              · go_wp2_with fail
                have O5 := HO4.out
                rw [HPE.out] at O5
                have O6 := O5.init
                have HN6 : Hid (∀ j, j < k + 1 → G j = none) := by
                  intro j hj
                  by_cases e : j = k
                  · rw [e, HGK.out, hFP]; rfl
                  · exact HNO.out j (by omega)
                go_roundw
                case rel => exact ⟨k + 1, by omega, by go_num, O6, HB4.out, HN6.out⟩
                case measure => simp [intOf]; omega
              · have HC2 := Lib.hid (HIH.out P w4 (by rw [HLN.out]; exact HLD.out) HL1.out HB4.out (by rw [HLN.out]; exact HO4.out))
                rw [HLN.out] at HC2
                go_wp2_with fail
                refine HC2.out.mono ?_
                rintro e w5 ⟨hb5, ⟨ys, hys, hyl, rfl, ho5⟩ | ⟨hys, rfl, ho5⟩⟩
                · have HPO : Hid (CnPost w0 B g cap l.length L l (cnS F lim (d+1) l) (.returned (.tuple #[.slice (some ⟨g, 0, none⟩) L cap, .bool true])) w5) := by
                    refine ⟨hb5, .inl ⟨ys, ?_, hyl, rfl, ho5⟩⟩
                    rw [HR.out]
                    exact find1_some hkM (by rw [HGK.out, hFP]; exact hys) HNO.out
                  clear ho5 hb5
                  go_wp2_with fail
                  exact bodyPost_ret (v := .tuple #[.slice (some ⟨g, 0, none⟩) L cap, .bool true]) (by simp [results, Try.results60, go_sem]) rfl HPO.out
                · rw [HPE.out] at ho5
                  have O6 := ho5.init
                  have HO6 := Lib.hid O6
                  have HB6 := Lib.hid hb5
                  clear O6 ho5 hb5
                  have HN6 : Hid (∀ j, j < k + 1 → G j = none) := by
                    intro j hj
                    by_cases e : j = k
                    · rw [e, HGK.out, hFP]; exact hys
                    · exact HNO.out j (by omega)
                  go_wp2_with fail
                  go_roundw
                  case rel => exact ⟨k + 1, by omega, by go_num, HO6.out, HB6.out, HN6.out⟩
                  case measure => simp [intOf]; omega
            · have hkE : k = lim := by omega
              have HPO : Hid (CnPost w0 B g cap l.length L l (cnS F lim (d+1) l) (.returned (.tuple #[.slice none 0 0, .bool false])) wr) := by
                refine ⟨HBQ.out, .inr ⟨?_, rfl, hoq⟩⟩
                rw [HR.out]
                exact find1_none (fun j hj => HNO.out j (by omega))
              have h1 : ¬ (k : Int) < (lim : Int) := by omega
              clear hoq hbq
              go_wp2_with fail
              exact bodyPost_ret (v := .tuple #[.slice none 0 0, .bool false]) (by simp [results, Try.results60, go_sem]) rfl HPO.out

set_option maxRecDepth 100000 in
theorem longestList_any (fl : List Int) (hf : Flw fl) (cap : Nat) : ∀ (S : Nat) (a : Option Addr) (w : World), S < 1024 → Rd w a fl →
    Calls Try.prog 104 #[.int .i64 S, .slice a fl.length cap] w fun e w' => ∃ a' cap', e = .returned (.slice a' (lng fl S).length cap') ∧ OwnI w' w.heap.size (.slice a' (lng fl S).length cap') (lng fl S) ∧ Below w.heap.size w w' := by
  intro S
  induction S using Nat.strongRecOn with
  | _ S ih =>
    intro a w hS hx
    obtain ⟨i0, hi, hz0, hz1, hz2⟩ := info_parts infoInt
    have HIH := Lib.hid ih
    have HL := Lib.hid (lng_eq hf S)
    obtain ⟨rest, hrest⟩ : ∃ rest : Nat → List Int, rest = fun i => lng fl (S &&& (nth fl i).toNat) := ⟨_, rfl⟩
    have HR := Lib.hid hrest
    have hrl : ∀ i, (rest i).length ≤ 1024 := fun i => by
      rw [hrest]
      have := lng_len fl (S &&& (nth fl i).toNat)
      have h2 : S &&& (nth fl i).toNat ≤ S := Nat.and_le_left
      simp only; omega
    have hbl : ∀ k, (bestTo rest S k).length ≤ 1025 := fun k => bestTo_len k (fun i _ => hrl i)
    have HRL := Lib.hid hrl
    have HBL := Lib.hid hbl
    have hfl := hf.len
    have S0 : (0 : Int) ≤ (S : Int) := by omega
    have S1 : (S : Int) ≤ 9223372036854775807 := by omega
    clear ih hrest hrl hbl
    go_enter Try.func104, Try.ntmps104
    go_wp2_with fail
    go_loopw [5, 10] (fun v i wr => ∃ (k : Nat) (av : Option Addr) (cv : Nat), k ≤ fl.length ∧ i = .int .i64 k ∧ v = .slice av (bestTo rest S k).length cv ∧ OwnI wr w.heap.size (.slice av (bestTo rest S k).length cv) (bestTo rest S k) ∧ Below w.heap.size w wr) (fun _ i _ => fl.length - (intOf i).toNat)
    case atStart => exact ⟨0, none, 0, Nat.zero_le _, rfl, rfl, OwnI.nil _ _, Below.refl _ _⟩
    case round =>
      obtain ⟨k, av, cv, hk, rfl, rfl, hown, hb⟩ := hrel
      have hbk := HBL.out k
      by_cases hlt : k < fl.length
      · have k0 : (0 : Int) ≤ (k : Int) := by omega
        have k1 : (k : Int) < (fl.length : Int) := by omega
        cases hh : hasB (S : Int) (k : Int)
        · have HB : Hid (bestTo rest S (k+1) = bestTo rest S k) := by
            have : S.testBit k = false := hh
            simp [Hid, bestTo, this]
          go_wp2_with (go_at_call 56; refine (hasElement_any _ _ _ (by assumption) (by assumption) (by assumption)).mono ?_; rintro e w' ⟨rfl, rfl⟩)
          go_roundw
          case rel => exact ⟨k + 1, av, cv, by omega, by go_num, by rw [HB.out], by rw [HB.out]; exact hown, hb⟩
          case measure => simp [intOf]; omega
        · have hbit : S.testBit k = true := hh
          obtain ⟨b, off, rfl, hbl, hck⟩ := (hx.below hb).cell k hlt
          have ⟨f0, f1, f2⟩ := hf.ok k hlt
          have hand := and_i (a := (S : Int)) (b := nth fl k) (by omega) (by omega) f0 (by omega)
          rw [Int.toNat_natCast] at hand
          have hless := and_less hbit f2
          have hcall := HIH.out (S &&& (nth fl k).toNat) hless (some ⟨b, off, none⟩) wr (by omega) (hx.below hb)
          have hrk : lng fl (S &&& (nth fl k).toNat) = rest k := by rw [HR.out]
          rw [hrk] at hcall
          have HC := Lib.hid hcall
          have HA := Lib.hid hand
          have hbest : bestTo rest S (k+1) = if (bestTo rest S k).length ≤ (rest k).length then (k : Int) :: rest k else bestTo rest S k := by
            rw [bestTo, if_pos hbit]
          have HBT := Lib.hid hbest
          have hrk2 := HRL.out k
          clear hcall hand hless hrk hbest hbit
          go_wp2_with (go_at_call 56; refine (hasElement_any _ _ _ (by assumption) (by assumption) (by assumption)).mono ?_; rintro e w' ⟨rfl, rfl⟩)
          rw [HA.out]
          refine HC.out.mono ?_
          rintro e w2 ⟨a2, c2, rfl, ho2, hb2⟩
          have b2 := hb.trans (hb2.mono hb.size)
          have o2 := hown.below hb2 (Nat.le_refl _)
          clear hb2 hown HC
          by_cases hle : (bestTo rest S k).length ≤ (rest k).length
          · have hd : ((bestTo rest S k).length : Int) ≤ ((rest k).length : Int) := by omega
            have HB := Lib.hid (show bestTo rest S (k+1) = (k : Int) :: rest k by rw [HBT.out, if_pos hle])
            have hsz := b2.size
            have hlit := lit_own w2 (k : Int) w.heap.size hsz
            have HLIT := Lib.hid hlit
            clear hlit hle
            obtain ⟨R, hR⟩ : ∃ R, R = rest k := ⟨_, rfl⟩
            rw [← hR] at ho2 hd hrk2
            rw [← hR]
            have HRR := Lib.hid hR
            clear hR
            cases a2 with
            | none =>
              have hR0 : R = [] := by
                rcases ho2.2 with ⟨_, h0⟩ | ⟨g, c, cur, e, _⟩
                · exact List.length_eq_zero_iff.1 h0
                · cases e
              subst hR0
              have HO3 : Hid (OwnI (w2.alloc (.cells #[.int .i64 (k : Int)] 3)) w.heap.size (.slice (some ⟨w2.heap.size, 0, none⟩) 1 1) [(k : Int)]) := HLIT.out
              have hbe : bestTo rest S k = [] := List.length_eq_zero_iff.1 (by simp at hd; simpa using hd)
              rw [hbe]
              clear ho2 o2 hd hbe hbk
              go_wp2_with (at_builtin; refine wpList_append_none rfl _ _ 22 rfl w.heap.size 3 i0 1 Try.underlying22 hi (.slice (some ⟨w2.heap.size, 0, none⟩) 1 1) 1 c2 [.int .i64 (k : Int)] rfl HLIT.out rfl ?_)
              go_roundw
              case rel => exact ⟨k + 1, some ⟨w2.heap.size, 0, none⟩, 1, by omega, by go_num, by rw [HB.out, ← HRR.out]; rfl, by rw [HB.out, ← HRR.out]; exact HO3.out, b2.alloc hsz _⟩
              case measure => simp [intOf]; omega
            | some ad =>
              have hrd := ho2.rd
              go_wp2_with (at_builtin; refine wpList_append_own _ rfl _ _ 22 rfl w.heap.size 3 i0 (.int .i64 0) 1 8 Try.underlying22 hi hz0 hz1 hz2 rfl (by decide) (.slice (some ⟨w2.heap.size, 0, none⟩) 1 1) 1 [.int .i64 (k : Int)] rfl HLIT.out ad R.length c2 (R.map (Value.int .i64)) rfl (by rw [List.length_map, Nat.mul_one]) (rd_news (hrd.alloc _)) (ints_one _) (by unfold maxLen; omega) (by omega) (by simp; omega) ?_)
              intro v' w3 ho3 hg3 _
              have hb3 : Below w.heap.size w w3 := (b2.alloc hsz _).grown hg3 (by simp; omega) (fun b e => by simp [Value.ownBlock] at e; omega)
              have o3 : OwnI w3 w.heap.size v' ((k : Int) :: R) := by
                unfold OwnI
                rw [List.length_cons, List.map_cons, Nat.add_comm]
                exact ho3
              obtain ⟨a3, c3, rfl⟩ := o3.form
              have HO3 := Lib.hid o3
              clear ho3 hg3 o3 o2 ho2
              go_wp2_with fail
              go_roundw
              case rel => exact ⟨k + 1, a3, c3, by omega, by go_num, by rw [HB.out, HRR.out], by rw [HB.out, ← HRR.out]; exact HO3.out, hb3⟩
              case measure => simp [intOf]; omega
          · have hd : ¬ ((bestTo rest S k).length : Int) ≤ ((rest k).length : Int) := by omega
            have HB := Lib.hid (show bestTo rest S (k+1) = bestTo rest S k by rw [HBT.out, if_neg hle])
            clear hle ho2
            go_wp2_with fail
            go_roundw
            case rel => exact ⟨k + 1, av, cv, by omega, by go_num, by rw [HB.out], by rw [HB.out]; exact o2, b2⟩
            case measure => simp [intOf]; omega
      · obtain rfl : k = fl.length := by omega
        have HE : Hid (lng fl S = bestTo rest S fl.length) := by rw [Hid, HL.out, HR.out]
        go_wp2_with fail
        refine bodyPost_ret (v := .slice av (bestTo rest S fl.length).length cv) (by simp [results, Try.results104, go_sem]) rfl ?_
        exact ⟨av, cv, by rw [HE.out], by rw [HE.out]; exact hown, hb⟩

/-- the set of all elements above one of those of a set that are less than k -/
def aboveTo (xs : List Int) (s : Int) : Nat → Nat
  | 0 => 0
  | k+1 => if hasB s k then aboveTo xs s k ||| (nth xs k).toNat else aboveTo xs s k
theorem aboveTo_lt {n : Int} {xs : List Int} (hp : RelP n xs) (s : Int) : ∀ k, k ≤ xs.length → aboveTo xs s k < 2 ^ 10
  | 0, _ => by simp [aboveTo]
  | k+1, hk => by
    have h := aboveTo_lt hp s k (by omega)
    have h1 := hp.small k (by omega)
    have h0 := hp.pos k (by omega)
    simp only [aboveTo]
    split
    · exact or_lt h (by omega)
    · exact h
theorem aboveTo_bit (xs : List Int) (s : Int) (j : Nat) : ∀ k, (aboveTo xs s k).testBit j = true ↔ ∃ i, i < k ∧ hasB s i = true ∧ (nth xs i).toNat.testBit j = true
  | 0 => by simp [aboveTo]
  | k+1 => by
    have ih := aboveTo_bit xs s j k
    simp only [aboveTo]
    cases hb : hasB s k
    · rw [if_neg (by simp), ih]
      constructor
      · rintro ⟨i, h1, h2, h3⟩
        exact ⟨i, by omega, h2, h3⟩
      · rintro ⟨i, h1, h2, h3⟩
        have : i ≠ k := fun e => by rw [e, hb] at h2; cases h2
        exact ⟨i, by omega, h2, h3⟩
    · rw [if_pos rfl, Nat.testBit_or, Bool.or_eq_true, ih]
      constructor
      · rintro (⟨i, h1, h2, h3⟩ | h)
        · exact ⟨i, by omega, h2, h3⟩
        · exact ⟨k, by omega, hb, h⟩
      · rintro ⟨i, h1, h2, h3⟩
        by_cases e : i = k
        · subst e; exact .inr h3
        · exact .inl ⟨i, by omega, h2, h3⟩
theorem okAtB_above {xs : List Int} {k : Nat} (h : hasB (nth xs k) k = false) : okAtB xs k = (sub (aboveTo xs (nth xs k) xs.length) (nth xs k).toNat == 0) := by
  rw [Bool.eq_iff_iff, okAtB_iff, beq_iff_eq, sub_zero]
  constructor
  · rintro ⟨_, h2⟩ i hi
    obtain ⟨j, hj, hb, ht⟩ := (aboveTo_bit _ _ _ _).1 hi
    exact sub_zero.1 (h2 j hj hb) i ht
  · intro h2
    refine ⟨h, fun j hj hb => sub_zero.2 (fun i hi => h2 i ((aboveTo_bit _ _ _ _).2 ⟨j, hj, hb, hi⟩))⟩

theorem aboveAny_any (n : Int) (a : Option Addr) (xs : List Int) (cap : Nat) (s : Int) (w : World) (hx : Rd w a xs) (hr : RelP n xs) (h0 : 0 ≤ s) (h1 : s ≤ 9223372036854775807) :
    Calls Try.prog 100 #[.agg #[.int .i64 n, .slice a xs.length cap], .int .i64 s] w fun e w' => e = .returned (.int .i64 (aboveTo xs s xs.length)) ∧ Below w.heap.size w w' := by
  have hx1 := hx.alloc (.cells #[.int .i64 n, .slice a xs.length cap] 28)
  obtain rfl : n = (xs.length : Int) := hr.len.symm
  have hn : xs.length ≤ 10 := by have := hr.n1; omega
  go_enter Try.func100, Try.ntmps100
  go_wp2_with fail
  go_loop [5, 9] (fun s' i' => ∃ k : Nat, k ≤ xs.length ∧ i' = .int .i64 k ∧ s' = .int .i64 (aboveTo xs s k)) (fun _ i => xs.length - (intOf i).toNat)
  case atStart => exact ⟨0, Nat.zero_le _, rfl, rfl⟩
  case round =>
    obtain ⟨k, hk, rfl, rfl⟩ := hrel
    by_cases hlt : k < xs.length
    · obtain ⟨b, off, rfl, hbl, hc⟩ := hx1.cell k hlt
      obtain ⟨b', off', e', hbl', hc'⟩ := hx.cell k hlt
      simp only [Option.some.injEq, Addr.mk.injEq, and_true] at e'
      obtain ⟨rfl, rfl⟩ := e'
      have hpk := hr.pos k hlt
      have hsk := hr.small k hlt
      have hab := aboveTo_lt hr s k hk
      have hor := Lib.hid (or_i (a := (aboveTo xs s k : Nat)) (b := nth xs k) (by omega) (by omega) hpk (by omega))
      clear hab
      cases hin : hasB s k
      · go_wp2_with (go_at_call 56; refine (hasElement_any _ _ _ h0 h1 (by omega)).mono ?_; rintro e w' ⟨rfl, rfl⟩)
        go_round
        case rel => exact ⟨k + 1, by omega, by go_num, by simp [aboveTo, hin]⟩
        case measure => simp [intOf]; omega
      · go_wp2_with (go_at_call 56; refine (hasElement_any _ _ _ h0 h1 (by omega)).mono ?_; rintro e w' ⟨rfl, rfl⟩)
        go_round
        case rel => exact ⟨k + 1, by omega, by go_num, val_int (by rw [hor.out]; simp [aboveTo, hin])⟩
        case measure => simp [intOf]; omega
    · obtain rfl : k = xs.length := by omega
      go_wp2_with fail
      go_ret
      exact ⟨rfl, (by repeat (first | exact Below.refl _ _ | assumption | refine Below.alloc ?_ (by first | exact Nat.le_refl _ | (simp only [World.size_alloc, World.size_setCell, World.size_drew]; omega) | omega) _ | refine Below.setCell ?_ (by first | exact Nat.le_refl _ | (simp only [World.size_alloc, World.size_setCell, World.size_drew]; omega) | omega) _ | refine Below.drew ?_))⟩

theorem isSet_any (s n : Int) (w : World) (h0' : 0 ≤ n) (h1' : n ≤ 10) :
    Calls Try.prog 120 #[.int .i64 s, .int .i64 n] w fun e w' => e = .returned (.bool (inB s 0 (2 ^ n.toNat - 1))) ∧ w = w' := by
  by_cases h0 : 0 ≤ s
  · by_cases h1 : s ≤ 2 ^ n.toNat - 1
    · have hf := Lib.hid (inB_iff.2 ⟨h0, h1⟩)
      go_enter Try.func120, Try.ntmps120
      go_wp2_with (go_at_call 55; refine (fullSet_any _ _ h0' h1').mono ?_; rintro e w' ⟨rfl, rfl⟩)
      go_ret
      exact ⟨ret_bool (by rw [hf.out]; try simp [h1]), rfl⟩
    · have hf := Lib.hid (inB_no (lo := 0).2 (.inr (show 2 ^ n.toNat - 1 < s by omega)))
      go_enter Try.func120, Try.ntmps120
      go_wp2_with (go_at_call 55; refine (fullSet_any _ _ h0' h1').mono ?_; rintro e w' ⟨rfl, rfl⟩)
      go_ret
      exact ⟨ret_bool (by rw [hf.out]; try simp [h1]), rfl⟩
  · have hf := Lib.hid (inB_no (hi := 2 ^ n.toNat - 1).2 (.inl (show s < 0 by omega)))
    go_enter Try.func120, Try.ntmps120
    go_wp2_with fail
    go_ret
    exact ⟨ret_bool (by rw [hf.out]; try simp [h1]), rfl⟩

theorem areSets_any (a : Option Addr) (xs : List Int) (cap : Nat) (n : Int) (w : World) (hx : Rd w a xs) (h0' : 0 ≤ n) (h1' : n ≤ 10) :
    Calls Try.prog 95 #[.slice a xs.length cap, .int .i64 n] w fun e w' => e = .returned (.bool (allB xs 0 (2 ^ n.toNat - 1))) ∧ w = w' := by
  have hlen := hx.len
  go_enter Try.func95, Try.ntmps95
  go_wp2_with fail
  go_loop [9] (fun i => ∃ k : Nat, k ≤ xs.length ∧ i = .int .i64 k ∧ allB (xs.take k) 0 (2 ^ n.toNat - 1) = true) (fun i => xs.length - (intOf i).toNat)
  case atStart => exact ⟨0, Nat.zero_le _, rfl, rfl⟩
  case round =>
    obtain ⟨k, hk, rfl, hall⟩ := hrel
    by_cases hlt : k < xs.length
    · obtain ⟨b, off, rfl, hbl, hc⟩ := hx.cell k hlt
      cases hin : inB (nth xs k) 0 (2 ^ n.toNat - 1)
      · have hf := Lib.hid (allB_false hlt hin)
        go_wp2_with (go_at_call 120; refine (isSet_any _ _ _ h0' h1').mono ?_; rintro e w' ⟨rfl, rfl⟩)
        go_ret
        exact ⟨ret_bool hf.out.symm, rfl⟩
      · go_wp2_with (go_at_call 120; refine (isSet_any _ _ _ h0' h1').mono ?_; rintro e w' ⟨rfl, rfl⟩)
        go_round
        case rel => exact ⟨k + 1, by omega, by go_num, by rw [allB_take _ _ _ _ hlt, hall, hin]; rfl⟩
        case measure => simp [intOf]; omega
    · go_wp2_with fail
      go_ret
      exact ⟨ret_bool (by rw [← hall, List.take_of_length_le (by omega)]), rfl⟩

theorem iIsRelation_any (n : Int) (a : Option Addr) (xs : List Int) (cap : Nat) (w : World) (_hn : -9223372036854775808 ≤ n ∧ n ≤ 9223372036854775807) (hx : Rd w a xs) :
    Calls Try.prog 49 #[.agg #[.int .i64 n, .slice a xs.length cap]] w fun e w' => e = .returned (.bool (relB n xs)) ∧ Below w.heap.size w w' := by
  have hx1 := hx.alloc (.cells #[.int .i64 n, .slice a xs.length cap] 28)
  have hlen := hx.len
  by_cases h0 : 0 ≤ n
  · by_cases h1 : n ≤ 10
    · cases h2 : ((xs.length : Int) == n)
      · have HR : Hid (relB n xs = false) := by
          have : ¬ (xs.length : Int) = n := by simpa using h2
          simp [Hid, relB, this]
        go_enter Try.func49, Try.ntmps49
        go_wp2_with fail
        go_ret
        exact ⟨ret_bool HR.out.symm, (by repeat (first | exact Below.refl _ _ | assumption | refine Below.alloc ?_ (by first | exact Nat.le_refl _ | (simp only [World.size_alloc, World.size_setCell, World.size_drew]; omega) | omega) _ | refine Below.setCell ?_ (by first | exact Nat.le_refl _ | (simp only [World.size_alloc, World.size_setCell, World.size_drew]; omega) | omega) _ | refine Below.drew ?_))⟩
      · have HR : Hid (relB n xs = allB xs 0 (2 ^ n.toNat - 1)) := by
          have : (xs.length : Int) = n := by simpa using h2
          simp [Hid, relB, inB, h0, h1, this]
        go_enter Try.func49, Try.ntmps49
        go_wp2_with fail
        refine (areSets_any _ _ _ _ _ hx1 h0 h1).mono ?_
        rintro e w' ⟨rfl, rfl⟩
        go_wp2_with fail
        go_ret
        exact ⟨ret_bool HR.out.symm, (by repeat (first | exact Below.refl _ _ | assumption | refine Below.alloc ?_ (by first | exact Nat.le_refl _ | (simp only [World.size_alloc, World.size_setCell, World.size_drew]; omega) | omega) _ | refine Below.setCell ?_ (by first | exact Nat.le_refl _ | (simp only [World.size_alloc, World.size_setCell, World.size_drew]; omega) | omega) _ | refine Below.drew ?_))⟩
    · have HR : Hid (relB n xs = false) := by simp [Hid, relB, inB]; omega
      go_enter Try.func49, Try.ntmps49
      go_wp2_with fail
      go_ret
      exact ⟨ret_bool HR.out.symm, (by repeat (first | exact Below.refl _ _ | assumption | refine Below.alloc ?_ (by first | exact Nat.le_refl _ | (simp only [World.size_alloc, World.size_setCell, World.size_drew]; omega) | omega) _ | refine Below.setCell ?_ (by first | exact Nat.le_refl _ | (simp only [World.size_alloc, World.size_setCell, World.size_drew]; omega) | omega) _ | refine Below.drew ?_))⟩
  · have HR : Hid (relB n xs = false) := by simp [Hid, relB, inB]; omega
    go_enter Try.func49, Try.ntmps49
    go_wp2_with fail
    go_ret
    exact ⟨ret_bool HR.out.symm, (by repeat (first | exact Below.refl _ _ | assumption | refine Below.alloc ?_ (by first | exact Nat.le_refl _ | (simp only [World.size_alloc, World.size_setCell, World.size_drew]; omega) | omega) _ | refine Below.setCell ?_ (by first | exact Nat.le_refl _ | (simp only [World.size_alloc, World.size_setCell, World.size_drew]; omega) | omega) _ | refine Below.drew ?_))⟩

theorem iIsOrder_any (n : Int) (a : Option Addr) (xs : List Int) (cap : Nat) (w : World) (hn : -9223372036854775808 ≤ n ∧ n ≤ 9223372036854775807) (hx : Rd w a xs) :
    Calls Try.prog 53 #[.agg #[.int .i64 n, .slice a xs.length cap]] w fun e w' => e = .returned (.bool (ordB n xs)) ∧ Below w.heap.size w w' := by
  have hx1 := hx.alloc (.cells #[.int .i64 n, .slice a xs.length cap] 28)
  have hlen := hx.len
  cases hr : relB n xs
  · have HR : Hid (ordB n xs = false) := by simp [Hid, ordB, hr]
    go_enter Try.func53, Try.ntmps53
    go_wp2_with fail
    refine (iIsRelation_any _ _ _ _ _ hn hx1).mono ?_
    rintro e w1 ⟨rfl, hb1⟩
    go_wp2_with fail
    go_ret
    exact ⟨ret_bool HR.out.symm, Below.trans (by repeat (first | exact Below.refl _ _ | assumption | refine Below.alloc ?_ (by first | exact Nat.le_refl _ | (simp only [World.size_alloc, World.size_setCell, World.size_drew]; omega) | omega) _ | refine Below.setCell ?_ (by first | exact Nat.le_refl _ | (simp only [World.size_alloc, World.size_setCell, World.size_drew]; omega) | omega) _ | refine Below.drew ?_)) (hb1.mono (by first | (simp only [World.size_alloc, World.size_setCell, World.size_drew]; omega) | omega))⟩
  · have hp := relB_p hr
    go_enter Try.func53, Try.ntmps53
    go_wp2_with fail
    refine (iIsRelation_any _ _ _ _ _ hn hx1).mono ?_
    rintro e w1 ⟨rfl, hb1⟩
    have B1 := (Box2.new w _ _ _).below hb1
    have ⟨z1, c1, d1⟩ := B1
    have bw1 : Below w.heap.size w w1 := Below.trans (by repeat (first | exact Below.refl _ _ | assumption | refine Below.alloc ?_ (by first | exact Nat.le_refl _ | (simp only [World.size_alloc, World.size_setCell, World.size_drew]; omega) | omega) _ | refine Below.setCell ?_ (by first | exact Nat.le_refl _ | (simp only [World.size_alloc, World.size_setCell, World.size_drew]; omega) | omega) _ | refine Below.drew ?_)) (hb1.mono (by first | (simp only [World.size_alloc, World.size_setCell, World.size_drew]; omega) | omega))
    have HR := Lib.hid hr
    clear hb1
    go_wp2_with fail
    clear hr
    go_loopw [11] (fun i wr => ∃ k : Nat, k ≤ xs.length ∧ i = .int .i64 k ∧ (∀ j, j < k → okAtB xs j = true) ∧ Below w1.heap.size w1 wr) (fun i _ => xs.length - (intOf i).toNat)
    case atStart => exact ⟨0, Nat.zero_le _, rfl, fun j hj => by omega, Below.refl _ _⟩
    case round =>
      obtain ⟨k, hk, rfl, hall, hb⟩ := hrel
      have ⟨zr, cr, dr⟩ := B1.below hb
      have bwr := bw1.trans (hb.mono bw1.size)
      have HA := Lib.hid hall
      clear hall c1 d1
      by_cases hlt : k < xs.length
      · obtain ⟨b, off, rfl, hbl, hc⟩ := (hx.below bwr).cell k hlt
        have hpk := hp.pos k hlt
        have hsk := hp.small k hlt
        have hsk' : nth xs k ≤ 9223372036854775807 := by omega
        cases hin : hasB (nth xs k) k
        · have hab := aboveTo_lt hp (nth xs k) xs.length (Nat.le_refl _)
          have hsub := sub_i (a := (aboveTo xs (nth xs k) xs.length : Nat)) (b := nth xs k) (by omega) (by omega) hpk (by omega)
          have hok := okAtB_above hin
          rw [Int.toNat_natCast] at hsub
          cases hok2 : okAtB xs k
          · rw [hok2] at hok
            have hne : (bits BinOp.andNot IntKind.i64 ((aboveTo xs (nth xs k) xs.length : Nat) : Int) (nth xs k) != 0) = true := by
              rw [hsub]
              simpa using hok.symm
            have HN := Lib.hid (ordB_no (n := n) hlt hok2)
            clear hok2 hok hsub hab
            go_wp2_with fail
            refine (hasElement_any _ _ _ hpk hsk' (by omega)).mono ?_
            rintro e w' ⟨rfl, rfl⟩
            go_wp2_with fail
            refine (aboveAny_any _ _ _ _ _ _ (hx.below bwr) hp hpk hsk').mono ?_
            rintro e w2 ⟨rfl, hb2⟩
            go_wp2_with fail
            go_ret
            exact ⟨ret_bool HN.out.symm, bwr.trans (hb2.mono bwr.size)⟩
          · rw [hok2] at hok
            have hne : (bits BinOp.andNot IntKind.i64 ((aboveTo xs (nth xs k) xs.length : Nat) : Int) (nth xs k) != 0) = false := by
              rw [hsub]
              simpa using hok.symm
            have HN := Lib.hid hok2
            clear hok2 hok hsub hab
            go_wp2_with fail
            refine (hasElement_any _ _ _ hpk hsk' (by omega)).mono ?_
            rintro e w' ⟨rfl, rfl⟩
            go_wp2_with fail
            refine (aboveAny_any _ _ _ _ _ _ (hx.below bwr) hp hpk hsk').mono ?_
            rintro e w2 ⟨rfl, hb2⟩
            go_wp2_with fail
            go_roundw
            case rel =>
              refine ⟨k + 1, by omega, by go_num, fun j hj => ?_, hb.trans (hb2.mono hb.size)⟩
              by_cases e : j = k
              · rw [e]; exact HN.out
              · exact HA.out j (by omega)
            case measure => simp [intOf]; omega
        · have HN := Lib.hid (ordB_no (n := n) hlt (okAtB_has hin))
          go_wp2_with fail
          refine (hasElement_any _ _ _ hpk hsk' (by omega)).mono ?_
          rintro e w' ⟨rfl, rfl⟩
          go_wp2_with fail
          go_ret
          exact ⟨ret_bool HN.out.symm, bwr⟩
      · obtain rfl : k = xs.length := by omega
        go_wp2_with fail
        go_ret
        exact ⟨ret_bool (ordB_iff.2 ⟨HR.out, HA.out⟩).symm, bwr⟩

/-- a row of m integers of which the first k are filled, f 0 .. -/
def rowF (f : Nat → Int) (m k : Nat) : List Int := fmap f k ++ List.replicate (m - k) 0
theorem rowF_len (f : Nat → Int) {m k : Nat} (h : k ≤ m) : (rowF f m k).length = m := by simp [rowF, fmap_len]; omega
theorem rowF_set (f : Nat → Int) {m k : Nat} (h : k < m) : (rowF f m k).set k (f k) = rowF f m (k+1) := by
  apply List.ext_getElem?
  intro j
  rw [List.getElem?_set]
  by_cases hj : k = j
  · subst hj
    rw [if_pos rfl, if_pos (by rw [rowF_len f (by omega)]; exact h), rowF, List.getElem?_append_left (by rw [fmap_len]; omega)]
    simp [fmap]
  · simp only [hj, if_false, rowF, List.getElem?_append, fmap_len, List.getElem?_replicate]
    by_cases h1 : j < k
    · have h2 : j < k + 1 := by omega
      simp [h1, h2, fmap]
    · have h2 : ¬ j < k + 1 := by omega
      have h3 : j - k < m - k ↔ j - (k+1) < m - (k+1) := by omega
      simp [h1, h2, h3]
theorem rowF_zero (f : Nat → Int) {m k : Nat} (h : k < m) : (rowF f m k).set k 0 = rowF f m k := by
  apply List.ext_getElem?
  intro j
  rw [List.getElem?_set]
  by_cases hj : k = j
  · subst hj
    rw [if_pos rfl, if_pos (by rw [rowF_len f (by omega)]; exact h), rowF, List.getElem?_append_right (by rw [fmap_len]; omega)]
    rw [fmap_len, Nat.sub_self, List.getElem?_replicate, if_pos (by omega)]
  · simp [hj]
theorem rowF_end (f : Nat → Int) (m : Nat) : rowF f m m = fmap f m := by simp [rowF]
theorem made_row {w1 : World} {B : Nat} {v : Value} {m : Nat} (f : Nat → Int) (h : w1.ownsRow B 3 1 v m (madeCells (Value.int .i64 0).cells (m * 1)).toList) : OwnI w1 B v (rowF f m 0) := by
  unfold OwnI
  rw [rowF_len f (Nat.zero_le _)]
  simpa [Value.cells, toList_madeCells_one, fmap, rowF] using h

theorem lat_val {xs : List Int} (h : xs.length ≤ 10) {i : Nat} (hi : i < xs.length) : bits .andNot .i64 ((freeN xs i : Nat) : Int) (2 ^ i - 1) = latE xs i := by
  have h1 := freeN_lt h i
  have h2 : 2 ^ i ≤ 2 ^ 10 := Nat.pow_le_pow_right (by omega) (by omega)
  have h3 := Nat.two_pow_pos i
  rw [full_nat (by omega), sub_nat _ _ (by omega) (by omega)]
  rfl
set_option maxRecDepth 100000 in
theorem iAntichain_any (n : Int) (a : Option Addr) (xs : List Int) (cap : Nat) (w : World) (hn : -9223372036854775808 ≤ n ∧ n ≤ 9223372036854775807) (hx : Rd w a xs) :
    Calls Try.prog 59 #[.agg #[.int .i64 n, .slice a xs.length cap]] w fun e w' => ∃ a' cap', e = .returned (.tuple #[.slice a' (antL n xs).length cap', .bool (ordB n xs)]) ∧ OwnI w' w.heap.size (.slice a' (antL n xs).length cap') (antL n xs) ∧ Below w.heap.size w w' := by
  have hx1 := hx.alloc (.cells #[.int .i64 n, .slice a xs.length cap] 28)
  obtain ⟨i0, hi, hz0, hz1, hz2⟩ := info_parts infoInt
  cases hr : ordB n xs
  · have H2 : Hid (antL n xs = []) := by simp [Hid, antL, hr]
    go_enter Try.func59, Try.ntmps59
    go_wp2_with fail
    refine (iIsOrder_any _ _ _ _ _ hn hx1).mono ?_
    rw [hr]
    rintro e w1 ⟨rfl, hb1⟩
    have bw1 : Below w.heap.size w w1 := Below.trans (by repeat (first | exact Below.refl _ _ | assumption | refine Below.alloc ?_ (by first | exact Nat.le_refl _ | (simp only [World.size_alloc, World.size_setCell, World.size_drew]; omega) | omega) _ | refine Below.setCell ?_ (by first | exact Nat.le_refl _ | (simp only [World.size_alloc, World.size_setCell, World.size_drew]; omega) | omega) _ | refine Below.drew ?_)) (hb1.mono (by first | (simp only [World.size_alloc, World.size_setCell, World.size_drew]; omega) | omega))
    go_wp2_with fail
    refine bodyPost_ret (v := .tuple #[.slice none 0 0, .bool false]) (by simp [results, Try.results59, go_sem]) rfl ?_
    exact ⟨none, 0, by rw [H2.out]; rfl, by rw [H2.out]; exact OwnI.nil _ _, bw1⟩
  · have hp := ord_rel hr
    have hl10 : xs.length ≤ 10 := by have := hp.len; have := hp.n1; omega
    have H2 : Hid (antL n xs = lng (lats xs) (2 ^ xs.length - 1)) := by simp [Hid, antL, hr]
    have HR := Lib.hid hr
    obtain rfl : n = (xs.length : Int) := hp.len.symm
    have hp0 := hp.n0
    have hp1 := hp.n1
    have HFN := Lib.hid (full_nat hl10)
    have hlls : 2 ^ xs.length - 1 < 1024 := by
      have : 2 ^ xs.length ≤ 2 ^ 10 := Nat.pow_le_pow_right (by omega) hl10
      have := Nat.two_pow_pos xs.length
      omega
    have HLL := Lib.hid hlls
    clear hr hlls
    go_enter Try.func59, Try.ntmps59
    go_wp2_with fail
    refine (iIsOrder_any _ _ _ _ _ hn hx1).mono ?_
    rw [HR.out]
    rintro e w1 ⟨rfl, hb1⟩
    have A1 : Box2 w1 w.heap.size (.int .i64 (xs.length : Int)) (.slice a xs.length cap) := (Box2.new w _ _ _).below hb1
    have bw1 : Below w.heap.size w w1 := Below.trans (by repeat (first | exact Below.refl _ _ | assumption | refine Below.alloc ?_ (by first | exact Nat.le_refl _ | (simp only [World.size_alloc, World.size_setCell, World.size_drew]; omega) | omega) _ | refine Below.setCell ?_ (by first | exact Nat.le_refl _ | (simp only [World.size_alloc, World.size_setCell, World.size_drew]; omega) | omega) _ | refine Below.drew ?_)) (hb1.mono (by first | (simp only [World.size_alloc, World.size_setCell, World.size_drew]; omega) | omega))
    have ⟨zA, cA, dA⟩ := A1
    clear hb1
    go_wp2_with (at_make; refine wpList_make_full _ rfl (.tmp 10) (.tmp 10) 22 rfl w1.heap.size 3 i0 (.int .i64 0) 1 Try.underlying22 hi hz0 hz1 .i64 .i64 _ _ xs.length rfl rfl rfl rfl (by rw [hz2]; omega) (by unfold maxLen; omega) (Nat.le_refl _) ?_; intro w2 hown hgrow; have A2 := A1.kept hgrow (by simp))
    have hb2 : Below w1.heap.size w1 w2 := (Below.refl _ _).grown hgrow (Nat.le_refl _) (fun k h => by cases h)
    have hown0 := made_row (latE xs) hown
    clear hown hgrow cA dA A1
    go_wp2_with fail
    go_loopw [14] (fun i wr => ∃ k : Nat, k ≤ xs.length ∧ i = .int .i64 k ∧ OwnI wr w1.heap.size (.slice (some ⟨w1.heap.size, 0, none⟩) xs.length xs.length) (rowF (latE xs) xs.length k) ∧ Below w1.heap.size w1 wr ∧ Box2 wr w.heap.size (.int .i64 (xs.length : Int)) (.slice a xs.length cap)) (fun i _ => xs.length - (intOf i).toNat)
    case atStart => exact ⟨0, Nat.zero_le _, rfl, hown0, hb2, A2⟩
    case round =>
      obtain ⟨k, hk, rfl, hown, hb, hA⟩ := hrel
      have ⟨zB, cB, dB⟩ := hA
      have bwr := bw1.trans (hb.mono bw1.size)
      by_cases hlt : k < xs.length
      · have k0 : (0 : Int) ≤ (k : Int) := by omega
        have k1 : (k : Int) < (xs.length : Int) := by omega
        have k2 : (k : Int) ≤ 10 := by omega
        have HLV := Lib.hid (lat_val hl10 hlt)
        go_wp2_with fail
        refine (indifferentSet_any _ _ _ _ _ _ (hx.below bwr) hp hlt).mono ?_
        rintro e w4 ⟨rfl, hb4⟩
        have o4 := hown.below hb4 (Nat.le_refl _)
        have bw4 := hb.trans (hb4.mono hb.size)
        have A4 := hA.below hb4
        have hrl := rowF_len (latE xs) hk
        have ⟨ci, fi⟩ := o4.at' hrl.symm (i := k) (by omega)
        have hput := o4.put hrl.symm k (latE xs k)
        rw [rowF_set _ hlt] at hput
        have HP := Lib.hid hput.1
        have A5 := A4.kept hput.2 (by simp; omega)
        have bw5 := bw4.setCell (p := ⟨w1.heap.size, k, none⟩) (Nat.le_refl _) (.int .i64 (latE xs k))
        clear hput hrl hown o4 hb4 cB dB
        go_wp2_with fail
        refine (fullSet_any _ _ k0 k2).mono ?_
        rintro e w' ⟨rfl, rfl⟩
        rw [Int.toNat_natCast]
        go_wp2_with fail
        go_roundw
        case rel => rw [HLV.out]; exact ⟨k + 1, by omega, by go_num, HP.out, bw5, A5⟩
        case measure => simp [intOf]; omega
      · obtain rfl : k = xs.length := by omega
        rw [rowF_end] at hown
        have hrd : Rd wr (some ⟨w1.heap.size, 0, none⟩) (lats xs) := hown.rd
        have hll := lats_len xs
        clear hown
        go_wp2_with fail
        refine (fullSet_any _ _ hp0 hp1).mono ?_
        rintro e w' ⟨rfl, rfl⟩
        rw [Int.toNat_natCast, HFN.out]
        have hcall := longestList_any (lats xs) (lats_flw hl10) xs.length (2 ^ xs.length - 1) (some ⟨w1.heap.size, 0, none⟩) wr HLL.out hrd
        rw [hll] at hcall
        have HC := Lib.hid hcall
        clear hcall hll
        go_wp2_with fail
        refine HC.out.mono ?_
        rintro e w6 ⟨a6, c6, rfl, ho6, hb6⟩
        go_wp2_with fail
        refine bodyPost_ret (v := .tuple #[.slice a6 (lng (lats xs) (2 ^ xs.length - 1)).length c6, .bool true]) (by simp [results, Try.results59, go_sem]) rfl ?_
        exact ⟨a6, c6, by rw [H2.out], by rw [H2.out]; exact ho6.mono bwr.size, bwr.trans (hb6.mono bwr.size)⟩

/-- what make([]int, n) lays -/
def madeZ (n : Nat) : Array Value := madeCells (Value.int .i64 0).cells (n * 1)
theorem make_ints (n : Nat) (h : n ≤ 1024) (W : World) : (Instr.makeSlice 22 (.int .i64 (n : Int)) (.int .i64 (n : Int))).run Try.prog W = .ok (.slice (some ⟨W.heap.size, 0, none⟩) n n) (W.alloc (.cells (madeZ n) 3)) := by
  obtain ⟨i0, hi, hz0, hz1, hz2⟩ := info_parts infoInt
  have hr := run_make (P := Try.prog) W 22 3 i0 (.int .i64 0) Try.underlying22 hi hz0 .i64 .i64 n n (by omega) (Int.le_refl _) (by rw [hz2]; omega) (by omega)
  simp only [Int.toNat_natCast, hz1] at hr
  exact hr
theorem own_made (W : World) (B n : Nat) (h : n ≤ 1024) (hB : B ≤ W.heap.size) : OwnI (W.alloc (.cells (madeZ n) 3)) B (.slice (some ⟨W.heap.size, 0, none⟩) n n) (List.replicate n 0) := by
  have := World.ownsRow_lit W (e := 3) (size := 1) (madeZ n) n hB (by unfold maxLen; omega) (size_madeCells _ _)
  unfold OwnI
  rw [List.length_replicate, List.map_replicate]
  have e : (madeZ n).toList = List.replicate n (Value.int .i64 0) := by unfold madeZ; rw [Nat.mul_one]; exact toList_madeCells_one _ n
  rw [e] at this
  exact this

theorem make_room (n : Nat) (h : n ≤ 1024) (W : World) : (Instr.makeSlice 22 (.int .i64 0) (.int .i64 (n : Int))).run Try.prog W = .ok (.slice (some ⟨W.heap.size, 0, none⟩) 0 n) (W.alloc (.cells (madeZ n) 3)) := by
  obtain ⟨i0, hi, hz0, hz1, hz2⟩ := info_parts infoInt
  have hr := run_make (P := Try.prog) W 22 3 i0 (.int .i64 0) Try.underlying22 hi hz0 .i64 .i64 0 n (by omega) (by omega) (by rw [hz2]; omega) (by omega)
  simp only [Int.toNat_natCast, Int.toNat_zero, hz1] at hr
  exact hr
theorem own_room (W : World) (B n : Nat) (h : n ≤ 1024) (hB : B ≤ W.heap.size) : OwnI (W.alloc (.cells (madeZ n) 3)) B (.slice (some ⟨W.heap.size, 0, none⟩) 0 n) [] := by
  rcases (own_made W B n h hB).2 with ⟨e, _⟩ | ⟨g', cap', cur, e, hb, hg, hn, hm, hs, ht⟩
  · cases e
  · simp only [Value.slice.injEq, Option.some.injEq, Addr.mk.injEq, and_true] at e
    obtain ⟨rfl, _, rfl⟩ := e
    exact ⟨by simp, .inr ⟨_, _, cur, rfl, hb, hg, by first | exact Nat.zero_le _ | simp, hm, hs, by simp⟩⟩

set_option maxRecDepth 100000 in
set_option maxHeartbeats 1000000 in
theorem iChN_any (n : Int) (a : Option Addr) (xs : List Int) (cap : Nat) (w : World) (hn : -9223372036854775808 ≤ n ∧ n ≤ 9223372036854775807) (hx : Rd w a xs) :
    Calls Try.prog 26 #[.agg #[.int .i64 n, .slice a xs.length cap]] w fun e w' => ∃ a' cap', e = .returned (.tuple #[.slice a' (chV n xs).length cap', .bool (chB n xs)]) ∧ OwnI w' w.heap.size (.slice a' (chV n xs).length cap') (chV n xs) ∧ Below w.heap.size w w' := by
  have hb0 : Below w.heap.size w (w.alloc (.cells #[.int .i64 n, .slice a xs.length cap] 28)) := (by repeat (first | exact Below.refl _ _ | assumption | refine Below.alloc ?_ (by first | exact Nat.le_refl _ | (simp only [World.size_alloc, World.size_setCell, World.size_drew]; omega) | omega) _ | refine Below.setCell ?_ (by first | exact Nat.le_refl _ | (simp only [World.size_alloc, World.size_setCell, World.size_drew]; omega) | omega) _ | refine Below.drew ?_))
  have A0 := Box2.new w (.int .i64 n) (.slice a xs.length cap) 28
  have HC := Lib.hid (iAntichain_any n a xs cap _ hn (hx.below hb0))
  cases hr : ordB n xs
  · have H1 : Hid (chV n xs = []) := by simp [Hid, chV, chO, hr]
    have H2 : Hid (chB n xs = false) := by simp [Hid, chB, chO, hr]
    rw [hr] at HC
    rw [H1.out, H2.out]
    clear hr
    go_enter Try.func26, Try.ntmps26
    go_wp2_with fail
    refine HC.out.mono ?_
    rintro e w1 ⟨a1, c1, rfl, ho1, hb1⟩
    have b1 := hb0.trans (hb1.mono (by simp))
    clear hb1
    go_wp2_with fail
    refine bodyPost_ret (v := .tuple #[.slice none 0 0, .bool false]) (by simp [results, Try.results26, go_sem]) rfl ?_
    exact ⟨none, 0, rfl, OwnI.nil _ _, b1⟩
  · have hp := ord_rel hr
    have h10 : xs.length ≤ 10 := by have := hp.len; have := hp.n1; omega
    obtain rfl : n = (xs.length : Int) := hp.len.symm
    have H1 : Hid (chV (xs.length : Int) xs = (cnS (apB xs) (antL (xs.length : Int) xs).length xs.length []).getD []) := by rw [Hid, chV, chO, if_pos hr]
    have H2 : Hid (chB (xs.length : Int) xs = (cnS (apB xs) (antL (xs.length : Int) xs).length xs.length []).isSome) := by rw [Hid, chB, chO, if_pos hr]
    have hM := antL_100 (xs.length : Int) xs
    rw [hr] at HC
    rw [H1.out, H2.out]
    obtain ⟨M, hMe⟩ : ∃ M, M = antL (xs.length : Int) xs := ⟨_, rfl⟩
    rw [← hMe] at HC hM ⊢
    have hmk := make_room xs.length (by omega)
    obtain ⟨r, hrr⟩ : ∃ r, r = cnS (apB xs) M.length xs.length [] := ⟨_, rfl⟩
    rw [← hrr]
    have HRR := Lib.hid hrr
    clear hr H1 H2 hMe hrr
    go_enter Try.func26, Try.ntmps26
    go_wp2_with fail
    refine HC.out.mono ?_
    rintro e w1 ⟨a1, c1, rfl, ho1, hb1⟩
    have b1 := hb0.trans (hb1.mono (by simp))
    have A1 := A0.below hb1
    have hs1 := b1.size
    have ⟨zA, cA, dA⟩ := A1
    have hW : Below w1.heap.size w1 (w1.alloc (.cells (madeZ xs.length) 3)).drew := ((Below.refl _ _).alloc (Nat.le_refl _) _).drew
    have hO : OwnI (w1.alloc (.cells (madeZ xs.length) 3)).drew w1.heap.size (.slice (some ⟨w1.heap.size, 0, none⟩) 0 xs.length) [] := (own_room w1 w1.heap.size xs.length (by omega) (Nat.le_refl _)).below (Below.refl _ _).drew (Nat.le_refl _)
    have HC2 : Hid (Calls Try.prog 60 #[.int .i64 (xs.length : Int), .int .i64 (M.length : Int), .slice (some ⟨w1.heap.size, 0, none⟩) 0 xs.length, .func (.func 61) #[] #[.pointer (some ⟨w.heap.size, 0, none⟩)]] (w1.alloc (.cells (madeZ xs.length) 3)).drew fun e w' => ∃ a' cap', e = .returned (.tuple #[.slice a' ((cnS (apB xs) M.length xs.length []).getD []).length cap', .bool (cnS (apB xs) M.length xs.length []).isSome]) ∧ OwnI w' w1.heap.size (.slice a' ((cnS (apB xs) M.length xs.length []).getD []).length cap') ((cnS (apB xs) M.length xs.length []).getD []) ∧ Below w1.heap.size w1 w') := by
      refine (cn_any w1 w1.heap.size w1.heap.size xs.length 61 #[.pointer (some ⟨w.heap.size, 0, none⟩)] (apB xs) M.length xs.length hM (by omega) (Nat.le_refl _) (Nat.le_refl _) Try.call61 ?_ xs.length [] _ (by simp) (fun i hi => by simp at hi) hW hO).mono ?_
      · intro l g' cap' w' h0 hl _ hb ho
        have hcm : cap' ≤ 9223372036854775807 := by
          rcases ho.2 with ⟨e, _⟩ | ⟨g, cp, cur, e, _, _, _, hm, _, _⟩
          · cases e
          · simp only [Value.slice.injEq, Option.some.injEq, Addr.mk.injEq, and_true] at e
            obtain ⟨_, _, rfl⟩ := e
            unfold maxLen at hm
            omega
        exact chFits_any _ a xs cap w.heap.size g' l cap' w' (A1.below hb) (hx.below (b1.trans (hb.mono hs1))) hp ho.rd h0 hl ho.capLe hcm
      · rintro e w' ⟨hb, ⟨ys, hy, hl, rfl, ho⟩ | ⟨hy, rfl, ho⟩⟩
        · refine ⟨some ⟨w1.heap.size, 0, none⟩, xs.length, ?_, ?_, hb⟩
          · rw [hy, ← hl]; rfl
          · rw [hy, Option.getD_some, hl]; exact ho
        · refine ⟨none, 0, ?_, ?_, hb⟩
          · rw [hy]; rfl
          · rw [hy]; exact OwnI.nil _ _
    rw [← HRR.out] at HC2
    clear hb1 ho1 hW hO
    go_wp2_with fail
    go_region_held3 (fun w' => w'.cell? ⟨w.heap.size, 0, none⟩ = some (.int .i64 (xs.length : Int)) ∧ w'.cell? ⟨w.heap.size, 1, none⟩ = some (.slice a xs.length cap))
      (first | exact q3 | go_keep)
      (first | (go_at_call 60; refine HC2.out.mono ?_; rintro e w3 ⟨a3, c3, rfl, ho3, hb3⟩; have q3 : w3.cell? ⟨w.heap.size, 0, none⟩ = some (.int .i64 (xs.length : Int)) ∧ w3.cell? ⟨w.heap.size, 1, none⟩ = some (.slice a xs.length cap) := ⟨(A1.below hb3).2.1, (A1.below hb3).2.2⟩))
    all_goals
      go_wp2_with fail
      refine bodyPost_ret (v := .tuple #[.slice a3 (r.getD []).length c3, .bool r.isSome]) (by simp [results, Try.results26, go_sem]) rfl ?_
      exact ⟨a3, c3, rfl, ho3.mono hs1, b1.trans (hb3.mono hs1)⟩

/-- the marks k, k + 1, .. -/
def marks (k : Int) (n : Nat) : List Int := (List.range n).map (fun (j : Nat) => k + (j : Int))
theorem marks_len (k : Int) (n : Nat) : (marks k n).length = n := by simp [marks]
theorem marks_nth {k : Int} {n j : Nat} (h : j < n) : nth (marks k n) j = k + j := by
  simp [nth, marks, h]
theorem mark_step (k : Int) (xs : List Int) (j : Nat) (h : j < xs.length) :
    ((marks k j ++ xs.drop j).map (Value.int .i64)).set j (.int .i64 (k + j)) = (marks k (j+1) ++ xs.drop (j+1)).map (Value.int .i64) := by
  apply List.ext_getElem?
  intro i
  rw [List.getElem?_set]
  by_cases hj : j = i
  · subst hj
    rw [if_pos rfl, if_pos (by simp [marks_len]; omega), List.getElem?_map, List.getElem?_append_left (by rw [marks_len]; omega)]
    simp [marks]
  · simp only [hj, if_false, List.getElem?_map, List.getElem?_append, marks_len, List.getElem?_drop]
    by_cases h1 : i < j
    · have h2 : i < j + 1 := by omega
      simp [h1, h2, marks]
    · have h2 : ¬ i < j + 1 := by omega
      have h3 : j + (i - j) = j + 1 + (i - (j + 1)) := by omega
      simp [h1, h2, h3]
theorem own_ne {v u : Value} (h : ∀ c, v.ownBlock = some c → u.ownBlock ≠ some c) : v.ownBlock = none ∨ v.ownBlock ≠ u.ownBlock := by
  cases hv : v.ownBlock with
  | none => exact .inl rfl
  | some c => exact .inr (fun e => h c hv e.symm)

theorem markIntS_any (a : Option Addr) (xs : List Int) (cap : Nat) (k : Int) (B : Nat) (w : World) (h0 : 0 ≤ k) (h1 : k ≤ 1099511627776) (hn : xs.length ≤ 1048576) (ho : OwnI w B (.slice a xs.length cap) xs) :
    Calls Try.prog 19 #[.slice a xs.length cap, .int .i64 k] w fun e w' => e = .returned (.int .i64 (k + xs.length)) ∧ OwnI w' B (.slice a xs.length cap) (marks k xs.length) ∧ w.grownBy w' (Value.slice a xs.length cap).ownBlock := by
  go_enter Try.func19, Try.ntmps19
  go_wp2_with fail
  go_loopw [1, 5] (fun k' i wr => ∃ j : Nat, j ≤ xs.length ∧ i = .int .i64 j ∧ k' = .int .i64 (k + j) ∧ wr.ownsRow B 3 1 (.slice a xs.length cap) xs.length ((marks k j ++ xs.drop j).map (Value.int .i64)) ∧ w.grownBy wr (Value.slice a xs.length cap).ownBlock) (fun _ i _ => xs.length - (intOf i).toNat)
  case atStart => exact ⟨0, Nat.zero_le _, rfl, by simp, by (have e : marks k 0 ++ xs.drop 0 = xs := by simp [marks]); rw [e]; exact ho, World.grownBy.refl _ _⟩
  case round =>
    obtain ⟨j, hj, rfl, rfl, hown, hg⟩ := hrel
    by_cases hlt : j < xs.length
    · obtain ⟨g, rfl⟩ : ∃ g, a = some ⟨g, 0, none⟩ := by
        rcases hown.2 with ⟨e, h⟩ | ⟨g, c, cur, e, _⟩
        · omega
        · simp only [Value.slice.injEq] at e
          exact ⟨g, e.1⟩
      have hst := World.ownsRow.stored hown j (.int .i64 (k + j))
      rw [mark_step k xs j hlt] at hst
      have hcc := World.ownsRow.cellAt hown j (by omega)
      have hfr := World.ownsRow.frozenAt hown j
      have hcc' : ∃ u, wr.cell? ⟨g, j, none⟩ = some u := by
        rw [hcc]
        exact ⟨_, List.getElem?_eq_getElem (by simp [marks_len]; omega)⟩
      obtain ⟨u, hu⟩ := hcc'
      have Hst := Lib.hid hst
      have Hg := Lib.hid (grown_trans hg hst.2)
      clear hst hcc hown hg
      go_wp2
      go_roundw
      case rel => exact ⟨j + 1, by omega, by go_num, by go_num, Hst.out.1, Hg.out⟩
      case measure => simp [intOf]; omega
    · obtain rfl : j = xs.length := by omega
      go_wp2
      go_ret
      refine ⟨rfl, ?_, hg⟩
      have e : marks k xs.length ++ xs.drop xs.length = marks k xs.length := by simp
      rw [e] at hown
      show World.ownsRow _ _ _ _ _ _ _
      rw [marks_len]
      exact hown

theorem markOrder_any (n : Int) (a : Option Addr) (xs : List Int) (cap : Nat) (k : Int) (B : Nat) (w : World) (h0 : 0 ≤ k) (h1 : k ≤ 1099511627776) (hn : xs.length ≤ 1048576) (ho : OwnI w B (.slice a xs.length cap) xs) :
    Calls Try.prog 18 #[.agg #[.int .i64 n, .slice a xs.length cap], .int .i64 k] w fun e w' => e = .returned (.int .i64 (k + xs.length)) ∧ OwnI w' B (.slice a xs.length cap) (marks k xs.length) ∧ w.grownBy w' (Value.slice a xs.length cap).ownBlock := by
  go_enter Try.func18, Try.ntmps18
  go_wp2_with fail
  refine (markIntS_any _ _ _ _ B _ h0 h1 hn (ho.alloc _)).mono ?_
  rintro e w1 ⟨rfl, ho1, hg1⟩
  go_wp2_with fail
  go_ret
  exact ⟨rfl, ho1, grown_alloc_set hg1⟩

theorem heldIntS_any (a : Option Addr) (n cap : Nat) (k : Int) (w : World) (h0 : 0 ≤ k) (h1 : k ≤ 1099511627776) (hn : n ≤ 1048576) (hx : Rd w a (marks k n)) :
    Calls Try.prog 20 #[.slice a n cap, .int .i64 k] w fun e w' => e = .returned (.int .i64 (k + n)) ∧ Below w.heap.size w w' := by
  go_enter Try.func20, Try.ntmps20
  go_wp2_with fail
  go_loop [1, 5] (fun k' i => ∃ j : Nat, j ≤ n ∧ i = .int .i64 j ∧ k' = .int .i64 (k + j)) (fun _ i => n - (intOf i).toNat)
  case atStart => exact ⟨0, Nat.zero_le _, rfl, by simp⟩
  case round =>
    obtain ⟨j, hj, rfl, rfl⟩ := hrel
    by_cases hlt : j < n
    · obtain ⟨b, off, rfl, hbl, hc⟩ := hx.cell j (by rw [marks_len]; exact hlt)
      rw [marks_nth hlt] at hc
      go_wp2_with fail
      go_round
      case rel => exact ⟨j + 1, by omega, by go_num, by go_num⟩
      case measure => simp [intOf]; omega
    · obtain rfl : j = n := by omega
      go_wp2_with fail
      go_ret
      exact ⟨rfl, (by repeat (first | exact Below.refl _ _ | assumption | refine Below.alloc ?_ (by first | exact Nat.le_refl _ | (simp only [World.size_alloc, World.size_setCell, World.size_drew]; omega) | omega) _ | refine Below.setCell ?_ (by first | exact Nat.le_refl _ | (simp only [World.size_alloc, World.size_setCell, World.size_drew]; omega) | omega) _ | refine Below.drew ?_))⟩

end Go.Proofs.Ytaomjoaaoaombaa.chainNumbers
