/- PROVED: the law FnExactBesideOrders returns true for every input, and each of its arguments reads afterwards as before. No conditions. -/
import Derived.Test.YtphemaojcjcfpaaRows
import Derived.WalkKit
import Derived.WalkSpells
import Derived.WalkLawsBesides
import Derived.Deep.QuietTactic
import Derived.BigQuiet
import Derived.ProofKit
import Derived.OpenShut
import Derived.ShutString
import Derived.ChangeOld
import Derived.Below
import Derived.Lib.SmallJoins
import Derived.Lib.Hide
import Derived.Deep.RegionHeld3
import Derived.Deep.AppendLies
import Derived.Deep.RegionLaw
import Derived.Deep.DeepCutAuto
namespace Go.Proofs.Ytphemaojcjcfpaa.besideOrders
open Go Go.RowKit
set_option linter.unusedVariables false
set_option linter.unusedSimpArgs false
set_option maxHeartbeats 400000


/-- a number of a list; a plain function, which the walk leaves alone -/
def nth (xs : List Int) (k : Nat) : Int := xs.getD k 0
theorem nth_get (xs : List Int) (k : Nat) (h : k < xs.length) : nth xs k = xs[k] := by simp [nth, h]
/-- the slice at an address reads as a list -/
structure Rd (w : World) (a : Option Addr) (xs : List Int) : Prop where
  len : xs.length ≤ 9223372036854775807
  cell : ∀ k, k < xs.length → ∃ b off, a = some ⟨b, off, none⟩ ∧ b < w.heap.size ∧ w.cell? ⟨b, off + k, none⟩ = some (.int .i64 (nth xs k))
theorem Rd.below {w w' : World} {a : Option Addr} {xs : List Int} (h : Rd w a xs) (hb : Below w.heap.size w w') : Rd w' a xs :=
  ⟨h.len, fun k hk => by
    obtain ⟨b, off, e, hl, hc⟩ := h.cell k hk
    exact ⟨b, off, e, Nat.lt_of_lt_of_le hl hb.size, (hb.cell (World.block_lt_of_cell? _ _ hc)).trans hc⟩⟩
theorem Rd.mid {w w1 w2 : World} {a : Option Addr} {xs : List Int} {B : Nat} (h : Rd w a xs) (hb : Below B w1 w2) (hB : w.heap.size ≤ B) (h1 : Rd w1 a xs) : Rd w2 a xs :=
  ⟨h.len, fun k hk => by
    obtain ⟨b, off, e, hl, hc⟩ := h.cell k hk
    obtain ⟨b', off', e', hl', hc'⟩ := h1.cell k hk
    rw [e] at e'
    simp only [Option.some.injEq, Addr.mk.injEq, and_true] at e'
    obtain ⟨rfl, rfl⟩ := e'
    exact ⟨b, off, e, Nat.lt_of_lt_of_le hl' hb.size, (hb.cell (by show b < B; omega)).trans hc'⟩⟩
theorem Rd.alloc {w : World} {a : Option Addr} {xs : List Int} (h : Rd w a xs) (o : Obj) : Rd (w.alloc o) a xs :=
  h.below ((Below.refl _ _).alloc (Nat.le_refl _) o)
theorem Rd.same {w w' : World} {a : Option Addr} {xs : List Int} (h : Rd w a xs) (hs : w.heap.size ≤ w'.heap.size)
    (hb : ∀ b off, a = some ⟨b, off, none⟩ → w'.heap[b]? = w.heap[b]?) : Rd w' a xs :=
  ⟨h.len, fun k hk => by
    obtain ⟨b, off, e, hl, hc⟩ := h.cell k hk
    exact ⟨b, off, e, Nat.lt_of_lt_of_le hl hs, (World.cell?_of_block (w := w) (a := ⟨b, off + k, none⟩) (hb b off e)).trans hc⟩⟩
/-- a slice value that owns the row of these integers, in a block from B on -/
def OwnI (w : World) (B : Nat) (v : Value) (xs : List Int) : Prop := w.ownsRow B 3 1 v xs.length (xs.map (Value.int .i64))
theorem OwnI.form {w : World} {B : Nat} {v : Value} {xs : List Int} (h : OwnI w B v xs) : ∃ a cap, v = .slice a xs.length cap := by
  rcases h.2 with ⟨rfl, h0⟩ | ⟨g, cap, cur, rfl, _⟩
  · exact ⟨none, 0, by rw [h0]⟩
  · exact ⟨_, _, rfl⟩
theorem OwnI.rd {w : World} {B n cap : Nat} {a : Option Addr} {xs : List Int} (h : OwnI w B (.slice a n cap) xs) : Rd w a xs := by
  rcases h.2 with ⟨e, h0⟩ | ⟨g, cap', cur, e, hb, hg, hn, hm, hs, ht⟩
  · exact ⟨by omega, fun k hk => by omega⟩
  · simp only [Value.slice.injEq] at e
    obtain ⟨rfl, rfl, rfl⟩ := e
    refine ⟨by unfold maxLen at hm; omega, fun k hk => ⟨g, 0, rfl, (Array.getElem?_eq_some_iff.1 hg).1, ?_⟩⟩
    have := World.ownsRow.cellAt h k (by omega)
    rw [Nat.zero_add, this]
    simp [nth, hk]
theorem OwnI.blk {w : World} {B n cap : Nat} {a : Option Addr} {xs : List Int} (h : OwnI w B (.slice a n cap) xs) : ∀ b off s, a = some ⟨b, off, s⟩ → B ≤ b ∧ b < w.heap.size := by
  intro b off s e
  subst e
  exact World.ownsRow.lt h b rfl
theorem OwnI.kept {w w' : World} {B : Nat} {v : Value} {xs : List Int} {row : Option Nat} (h : OwnI w B v xs) (hg : w.grownBy w' row) (hne : v.ownBlock = none ∨ v.ownBlock ≠ row) : OwnI w' B v xs := World.ownsRow.kept h hg hne
theorem OwnI.mono {w : World} {B B' : Nat} {v : Value} {xs : List Int} (h : OwnI w B v xs) (hB : B' ≤ B) : OwnI w B' v xs := by
  refine ⟨h.1, ?_⟩
  rcases h.2 with hn | ⟨g, cap, cur, e, hb, rest⟩
  · exact .inl hn
  · exact .inr ⟨g, cap, cur, e, by omega, rest⟩
theorem OwnI.below {w w' : World} {B B' : Nat} {v : Value} {xs : List Int} (h : OwnI w B v xs) (hb : Below B' w w') (hB : w.heap.size ≤ B') : OwnI w' B v xs := by
  refine ⟨h.1, ?_⟩
  rcases h.2 with hn | ⟨g, cap, cur, e, hb', hg, rest⟩
  · exact .inl hn
  · refine .inr ⟨g, cap, cur, e, hb', ?_, rest⟩
    rw [hb.block g (by have := (Array.getElem?_eq_some_iff.1 hg).1; omega)]
    exact hg
theorem ret_bool {a b : Bool} (h : a = b) : Ending.returned (.bool a) = .returned (.bool b) := by rw [h]
theorem ret_int {a b : Int} (h : a = b) : Ending.returned (.int .i64 a) = .returned (.int .i64 b) := by rw [h]
theorem val_int {a b : Int} (h : a = b) : Value.int .i64 a = .int .i64 b := by rw [h]
theorem grown_below {w w' : World} {g : Nat} (h : w.grownBy w' (some g)) (B : Nat) (hB : B ≤ g) (hs : B ≤ w.heap.size) : Below B w w' :=
  ⟨h.os, h.tape, h.output, h.size, fun k hk => h.block k (by omega) (by intro e; simp only [Option.some.injEq] at e; omega)⟩
theorem below_grown {w w' : World} {B : Nat} (h : Below B w w') (hB : w.heap.size ≤ B) (row : Option Nat) : w.grownBy w' row :=
  ⟨h.os, h.tape, h.output, h.size, fun k hk _ => h.block k (by omega)⟩
theorem bcell {W w1 : World} (hb : Below W.heap.size W w1) : (∀ b o, b < W.heap.size → w1.cell? ⟨b, o, none⟩ = W.cell? ⟨b, o, none⟩) ∧ (∀ b o, b < W.heap.size → w1.frozen? ⟨b, o, none⟩ = W.frozen? ⟨b, o, none⟩) :=
  ⟨fun b o h => hb.cell (p := ⟨b, o, none⟩) h, fun b o h => hb.frozen (p := ⟨b, o, none⟩) h⟩
theorem infoInt : (Try.prog.info? 3).map (fun i => (i.zero, i.size, i.bytes)) = some (some (.int .i64 0), 1, 8) := by kernel_rfl
theorem OwnI.setBelow {w : World} {B : Nat} {v : Value} {xs : List Int} (h : OwnI w B v xs) {p : Addr} (hp : p.block < B) (u : Value) : OwnI (w.setCell p u) B v xs := ownsRow_setCell_below h hp u
theorem OwnI.alloc {w : World} {B : Nat} {v : Value} {xs : List Int} (h : OwnI w B v xs) (o : Obj) : OwnI (w.alloc o) B v xs := h.below ((Below.refl _ _).alloc (Nat.le_refl _) o) (Nat.le_refl _)
theorem Below.mono' {B B' : Nat} {w w' : World} (h : Below B w w') (hB : B' ≤ B) : Below B' w w' := h.mono hB
/-- a block that holds two cells -/
def Box2 (w : World) (b : Nat) (u v : Value) : Prop := b < w.heap.size ∧ w.cell? ⟨b, 0, none⟩ = some u ∧ w.cell? ⟨b, 1, none⟩ = some v
theorem Box2.below {w w' : World} {b : Nat} {u v : Value} (h : Box2 w b u v) (hb : Below w.heap.size w w') : Box2 w' b u v :=
  ⟨Nat.lt_of_lt_of_le h.1 hb.size, (hb.cell (p := ⟨b, 0, none⟩) h.1).trans h.2.1, (hb.cell (p := ⟨b, 1, none⟩) h.1).trans h.2.2⟩
theorem Box2.new (w : World) (u v : Value) (t : TypeId) : Box2 (w.alloc (.cells #[u, v] t)) w.heap.size u v :=
  ⟨by simp, by simp, by simp⟩
theorem Box2.kept {w w' : World} {b : Nat} {u v : Value} {row : Option Nat} (h : Box2 w b u v) (hg : w.grownBy w' row) (hne : some b ≠ row) : Box2 w' b u v :=
  ⟨Nat.lt_of_lt_of_le h.1 hg.size, hg.cell h.2.1 hne, hg.cell h.2.2 hne⟩
theorem OwnI.lt {w : World} {B : Nat} {v : Value} {xs : List Int} (h : OwnI w B v xs) : ∀ b, v.ownBlock = some b → B ≤ b ∧ b < w.heap.size := World.ownsRow.lt h
theorem OwnI.cut {w : World} {B : Nat} {v : Value} {xs : List Int} (h : OwnI w B v xs) {U : Nat} (hU : w.heap.size ≤ U) : ∀ b, v.ownBlock = some b → B ≤ b ∧ b < U := fun b e => ⟨(h.lt b e).1, Nat.lt_of_lt_of_le (h.lt b e).2 hU⟩
/-- a block of two cells that may be written -/
def Var2 (w : World) (b : Nat) (u v : Value) : Prop := Box2 w b u v ∧ w.frozen? ⟨b, 0, none⟩ = false ∧ w.frozen? ⟨b, 1, none⟩ = false
theorem Var2.below {w w' : World} {b : Nat} {u v : Value} (h : Var2 w b u v) (hb : Below w.heap.size w w') : Var2 w' b u v :=
  ⟨h.1.below hb, (hb.frozen (p := ⟨b, 0, none⟩) h.1.1).trans h.2.1, (hb.frozen (p := ⟨b, 1, none⟩) h.1.1).trans h.2.2⟩
theorem Var2.new (w : World) (u v : Value) (t : TypeId) : Var2 (w.alloc (.cells #[u, v] t)) w.heap.size u v :=
  ⟨Box2.new w u v t, by simp, by simp⟩
theorem Var2.alloc {w : World} {b : Nat} {u v : Value} (h : Var2 w b u v) (o : Obj) : Var2 (w.alloc o) b u v := h.below ((Below.refl _ _).alloc (Nat.le_refl _) o)
theorem Var2.kept {w w' : World} {b : Nat} {u v : Value} {row : Option Nat} (h : Var2 w b u v) (hg : w.grownBy w' row) (hne : some b ≠ row) : Var2 w' b u v :=
  ⟨h.1.kept hg hne, (World.frozen?_of_block (w := w) (a := ⟨b, 0, none⟩) (hg.block b h.1.1 hne)).trans h.2.1, (World.frozen?_of_block (w := w) (a := ⟨b, 1, none⟩) (hg.block b h.1.1 hne)).trans h.2.2⟩
theorem Var2.set {w : World} {b : Nat} {u v : Value} (h : Var2 w b u v) (u' v' : Value) : Var2 ((w.setCell ⟨b, 0, none⟩ u').setCell ⟨b, 1, none⟩ v') b u' v' := by
  refine ⟨⟨by simpa using h.1.1, ?_, ?_⟩, by simpa using h.2.1, by simpa using h.2.2⟩
  · rw [World.cell?_setCell_other _ _ _ _ (by simp), World.cell?_setCell_same _ _ _ h.1.2.1]
  · rw [World.cell?_setCell_same _ _ _ (u := v) (by rw [World.cell?_setCell_other _ _ _ _ (by simp)]; exact h.1.2.2)]
theorem grown_set (w : World) (p : Addr) (u : Value) : w.grownBy (w.setCell p u) (some p.block) :=
  ⟨rfl, rfl, rfl, by simp, fun k hk hn => Below.heap_setCell w p u k (fun e => hn (by rw [e]))⟩
theorem Var2.set1 {w : World} {b : Nat} {u v : Value} (h : Var2 w b u v) (v' : Value) : Var2 (w.setCell ⟨b, 1, none⟩ v') b u v' := by
  refine ⟨⟨by simpa using h.1.1, ?_, ?_⟩, by simpa using h.2.1, by simpa using h.2.2⟩
  · rw [World.cell?_setCell_other _ _ _ _ (by simp)]; exact h.1.2.1
  · rw [World.cell?_setCell_same _ _ _ h.1.2.2]
theorem Box2.set {w : World} {b : Nat} {u v : Value} (h : Box2 w b u v) {p : Addr} (x : Value) (hne : b ≠ p.block) : Box2 (w.setCell p x) b u v :=
  h.kept (grown_set w p x) (by simpa using hne)
theorem Var2.other {w : World} {b : Nat} {u v : Value} (h : Var2 w b u v) {p : Addr} (x : Value) (hne : b ≠ p.block) : Var2 (w.setCell p x) b u v :=
  h.kept (grown_set w p x) (by simpa using hne)
theorem ne_own {v : Value} {b : Nat} (h : ∀ c, v.ownBlock = some c → c ≠ b) : some b ≠ v.ownBlock := fun e => h b e.symm rfl
theorem grown_alloc_set {w w1 : World} {r : Option Nat} {o : Obj} (h : (w.alloc o).grownBy w1 r) : w.grownBy w1 r :=
  ⟨h.os, h.tape, h.output, by have := h.size; simp at this; omega, fun k hk hn => (h.block k (by simp; omega) hn).trans (Below.heap_alloc w o k hk)⟩
theorem grown_trans {w w1 w2 : World} {r : Option Nat} (h1 : w.grownBy w1 r) (h2 : w1.grownBy w2 r) : w.grownBy w2 r :=
  ⟨h2.os.trans h1.os, h2.tape.trans h1.tape, h2.output.trans h1.output, Nat.le_trans h1.size h2.size, fun k hk hn => (h2.block k (by have := h1.size; omega) hn).trans (h1.block k hk hn)⟩
theorem OwnI.nil (w : World) (B : Nat) : OwnI w B (.slice none 0 0) [] := World.ownsRow_nil _ _ _ _
theorem below_of_grown {w w' : World} {v : Value} {B : Nat} (hg : w.grownBy w' v.ownBlock) (hB : ∀ b, v.ownBlock = some b → B ≤ b) (hs : B ≤ w.heap.size) : Below B w w' :=
  ⟨hg.os, hg.tape, hg.output, hg.size, fun k hk => hg.block k (by omega) (fun e => by have := hB k e.symm; omega)⟩

def szF (left : Int) (n : Nat) : Int := if left - n < 0 then -1 else left - n
theorem szIntS_any (a : Option Addr) (n cap : Nat) (l : Int) (w : World) (h0 : 0 ≤ l) (h1 : l ≤ 1048576) (hn : n ≤ 9223372036854775807) :
    Calls Try.prog 46 #[.slice a n cap, .int .i64 l] w fun e w' => e = .returned (.int .i64 (szF l n)) ∧ w = w' := by
  by_cases h : l - n < 0
  · go_enter Try.func46, Try.ntmps46
    go_wp2
    go_ret
    exact ⟨ret_int (by simp [szF, h]), rfl⟩
  · go_enter Try.func46, Try.ntmps46
    go_wp2
    go_ret
    exact ⟨ret_int (by rw [szF, if_neg (by omega)]), rfl⟩

theorem szOrder_any (n : Int) (a : Option Addr) (len cap : Nat) (l : Int) (w : World) (h0 : 0 ≤ l) (h1 : l ≤ 1048576) (hn : len ≤ 9223372036854775807) :
    Calls Try.prog 13 #[.agg #[.int .i64 n, .slice a len cap], .int .i64 l] w fun e w' => e = .returned (.int .i64 (szF l len)) ∧ Below w.heap.size w w' := by
  by_cases h : l - len < 0
  · have hs : szF l len = -1 := by simp [szF, h]
    rw [hs]
    have HS := Lib.hid hs
    clear hs
    go_enter Try.func13, Try.ntmps13
    go_wp2_with (go_at_call 46; refine (szIntS_any _ _ _ _ _ h0 h1 hn).mono ?_; rintro e w' ⟨rfl, rfl⟩; rw [HS.out])
    go_ret
    exact ⟨rfl, (Below.refl _ _).alloc (Nat.le_refl _) _⟩
  · have hs : szF l len = l - len := by rw [szF, if_neg (by omega)]
    have hp : 0 ≤ szF l len := by omega
    clear hs
    go_enter Try.func13, Try.ntmps13
    go_wp2_with (go_at_call 46; refine (szIntS_any _ _ _ _ _ h0 h1 hn).mono ?_; rintro e w' ⟨rfl, rfl⟩)
    go_ret
    exact ⟨rfl, (Below.refl _ _).alloc (Nat.le_refl _) _⟩

theorem szOrder_ok {n : Int} {a : Option Addr} {len cap : Nat} {l : Int} {w : World} (h1 : l ≤ 1048576) (h : len ≤ l) :
    Calls Try.prog 13 #[.agg #[.int .i64 n, .slice a len cap], .int .i64 l] w fun e w' => e = .returned (.int .i64 (l - len)) ∧ Below w.heap.size w w' :=
  (szOrder_any n a len cap l w (by omega) h1 (by omega)).mono (fun e w' hh => ⟨by rw [hh.1, szF, if_neg (by omega)], hh.2⟩)
theorem szOrder_no {n : Int} {a : Option Addr} {len cap : Nat} {l : Int} {w : World} (h0 : 0 ≤ l) (h1 : l ≤ 1048576) (h : l < len) (hl : len ≤ 9223372036854775807) :
    Calls Try.prog 13 #[.agg #[.int .i64 n, .slice a len cap], .int .i64 l] w fun e w' => e = .returned (.int .i64 (-1)) ∧ Below w.heap.size w w' :=
  (szOrder_any n a len cap l w h0 h1 hl).mono (fun e w' hh => ⟨by rw [hh.1, szF, if_pos (by omega)], hh.2⟩)

theorem set_step (xs : List Int) (k : Nat) (h : k < xs.length) :
    ((xs.take k ++ List.replicate (xs.length - k) (0:Int)).map (Value.int .i64)).set k (.int .i64 (nth xs k)) = (xs.take (k+1) ++ List.replicate (xs.length - (k+1)) (0:Int)).map (Value.int .i64) := by
  apply List.ext_getElem?
  intro j
  have hk : (xs.take k).length = k := by simp; omega
  have hk1 : (xs.take (k+1)).length = k+1 := by simp; omega
  rw [List.getElem?_set]
  by_cases hj : k = j
  · subst hj
    rw [if_pos rfl, if_pos (by simp; omega), List.getElem?_map, List.getElem?_append_left (by omega)]
    simp [nth, h]
  · simp only [hj, if_false, List.getElem?_map, List.getElem?_append, hk, hk1, List.getElem?_take, List.getElem?_replicate]
    by_cases h1 : j < k
    · have h2 : j < k + 1 := by omega
      simp [h1, h2]
    · have h2 : ¬ j < k + 1 := by omega
      have h3 : j - k < xs.length - k ↔ j - (k+1) < xs.length - (k+1) := by omega
      simp [h1, h2, h3]
theorem toIntS_any (a : Option Addr) (xs : List Int) (cap : Nat) (w : World) (hx : Rd w a xs) (hn : xs.length ≤ 1048576) :
    Calls Try.prog 49 #[.slice a xs.length cap] w fun e w' => ∃ a' cap', e = .returned (.slice a' xs.length cap') ∧ OwnI w' w.heap.size (.slice a' xs.length cap') xs ∧ Below w.heap.size w w' := by
  obtain ⟨i0, hi, hz0, hz1, hz2⟩ := info_parts infoInt
  go_enter Try.func49, Try.ntmps49
  go_wp2_with (at_make; refine wpList_make_full _ rfl (.tmp 6) (.tmp 6) 22 rfl w.heap.size 3 i0 (.int .i64 0) 1 Try.underlying22 hi hz0 hz1 .i64 .i64 _ _ xs.length rfl rfl rfl rfl (by rw [hz2]; omega) (by unfold maxLen; omega) (Nat.le_refl _) ?_; intro w1 hown hgrow)
  have hb0 : Below w.heap.size w w1 := (Below.refl _ _).grown hgrow (Nat.le_refl _) (fun k h => by cases h)
  have hown0 : w1.ownsRow w.heap.size 3 1 (.slice (some ⟨w.heap.size, 0, none⟩) xs.length xs.length) xs.length ((xs.take 0 ++ List.replicate (xs.length - 0) (0:Int)).map (Value.int .i64)) := by
    simpa [Value.cells, toList_madeCells_one] using hown
  clear hown hgrow
  have hz : w.heap.size < w1.heap.size := by
    have := (World.ownsRow.lt hown0 w.heap.size rfl).2
    omega
  go_loopw [4] (fun i wr => ∃ k : Nat, k ≤ xs.length ∧ i = .int .i64 k ∧ wr.ownsRow w.heap.size 3 1 (.slice (some ⟨w.heap.size, 0, none⟩) xs.length xs.length) xs.length ((xs.take k ++ List.replicate (xs.length - k) (0:Int)).map (Value.int .i64)) ∧ Below w.heap.size w wr) (fun i _ => xs.length - (intOf i).toNat)
  case atStart => exact ⟨0, Nat.zero_le _, rfl, hown0, hb0⟩
  case round =>
    obtain ⟨k, hk, rfl, hown, hb⟩ := hrel
    by_cases hlt : k < xs.length
    · obtain ⟨b, off, rfl, hbl, hc⟩ := hx.cell k hlt
      have hc1 := (hb.cell (p := ⟨b, off + k, none⟩) hbl).trans hc
      have hst := World.ownsRow.stored hown k (.int .i64 (nth xs k))
      rw [set_step xs k hlt] at hst
      have hcc := World.ownsRow.cellAt hown k (by omega)
      have hfr := World.ownsRow.frozenAt hown k
      have hcc' : ∃ u, wr.cell? ⟨w.heap.size, k, none⟩ = some u := by
        rw [hcc]
        exact ⟨_, List.getElem?_eq_getElem (by simp; omega)⟩
      obtain ⟨u, hu⟩ := hcc'
      have Hst := Lib.hid hst
      clear hst hcc hown hc
      go_wp2
      go_roundw
      case rel => exact ⟨k + 1, by omega, by go_num, Hst.out.1, hb.setCell (Nat.le_refl _) _⟩
      case measure => simp [intOf]; omega
    · obtain rfl : k = xs.length := by omega
      go_wp2
      go_ret
      refine ⟨_, _, rfl, ?_, hb⟩
      have : xs.take xs.length ++ List.replicate (xs.length - xs.length) (0:Int) = xs := by simp
      rw [this] at hown
      exact hown

theorem toOrder_any (n : Int) (a : Option Addr) (xs : List Int) (cap : Nat) (w : World) (hx : Rd w a xs) (hn : xs.length ≤ 1048576) :
    Calls Try.prog 15 #[.agg #[.int .i64 n, .slice a xs.length cap]] w fun e w' => ∃ a' cap', e = .returned (.agg #[.int .i64 n, .slice a' xs.length cap']) ∧ OwnI w' w.heap.size (.slice a' xs.length cap') xs ∧ Below w.heap.size w w' := by
  go_enter Try.func15, Try.ntmps15
  go_wp2_with fail
  refine (toIntS_any _ _ _ _ (hx.below (by repeat (first | exact Below.refl _ _ | assumption | refine Below.alloc ?_ (by first | exact Nat.le_refl _ | (simp only [World.size_alloc, World.size_setCell, World.size_drew]; omega) | omega) _ | refine Below.setCell ?_ (by first | exact Nat.le_refl _ | (simp only [World.size_alloc, World.size_setCell, World.size_drew]; omega) | omega) _ | refine Below.drew ?_))) hn).mono ?_
  rintro e w1 ⟨a', cap', rfl, hown, hb⟩
  obtain ⟨hc, hf⟩ := bcell hb
  have hz := hb.size
  simp only [World.size_alloc, World.size_setCell] at hz
  go_wp2
  have hown' := ((((hown.setBelow (p := ⟨w.heap.size + 1 + 1, 1, none⟩) (by first | (simp only [World.size_alloc, World.size_setCell, World.size_drew]; omega) | omega) (.slice a' xs.length cap')).setBelow (p := ⟨w.heap.size + 1, 0, none⟩) (by first | (simp only [World.size_alloc, World.size_setCell, World.size_drew]; omega) | omega) (.int .i64 n)).setBelow (p := ⟨w.heap.size + 1, 1, none⟩) (by first | (simp only [World.size_alloc, World.size_setCell, World.size_drew]; omega) | omega) (.slice a' xs.length cap'))).mono (B' := w.heap.size) (by first | (simp only [World.size_alloc, World.size_setCell, World.size_drew]; omega) | omega)
  have hb' : Below w.heap.size w w1 := Below.trans (by repeat (first | exact Below.refl _ _ | assumption | refine Below.alloc ?_ (by first | exact Nat.le_refl _ | (simp only [World.size_alloc, World.size_setCell, World.size_drew]; omega) | omega) _ | refine Below.setCell ?_ (by first | exact Nat.le_refl _ | (simp only [World.size_alloc, World.size_setCell, World.size_drew]; omega) | omega) _ | refine Below.drew ?_)) (hb.mono (by first | (simp only [World.size_alloc, World.size_setCell, World.size_drew]; omega) | omega))
  refine bodyPost_ret (v := .agg #[.int .i64 n, .slice a' xs.length cap']) (by simp [results, Try.results15, go_sem, hc]) rfl ⟨a', cap', rfl, hown', ?_⟩
  exact ((hb'.setCell (by first | exact Nat.le_refl _ | (simp only [World.size_alloc, World.size_setCell, World.size_drew]; omega) | omega) _).setCell (by first | exact Nat.le_refl _ | (simp only [World.size_alloc, World.size_setCell, World.size_drew]; omega) | omega) _).setCell (by first | exact Nat.le_refl _ | (simp only [World.size_alloc, World.size_setCell, World.size_drew]; omega) | omega) _

def eqL (xs ys : List Int) : Bool := decide (xs = ys)
theorem eqL_self (xs : List Int) : eqL xs xs = true := by simp [eqL]

theorem eqIntS_any (a b : Option Addr) (xs ys : List Int) (ca cb : Nat) (w : World) (hx : Rd w a xs) (hy : Rd w b ys) :
    Calls Try.prog 24 #[.slice a xs.length ca, .slice b ys.length cb] w fun e w' => e = .returned (.bool (eqL xs ys)) ∧ Below w.heap.size w w' := by
  have hlx := hx.len
  have hly := hy.len
  by_cases hl : xs.length = ys.length
  · have hl' : ((xs.length : Int) != (ys.length : Int)) = false := by simp [hl]
    go_enter Try.func24, Try.ntmps24
    have HL := Lib.hid hl
    clear hl
    go_wp2_with fail
    go_loopw [5] (fun i wr => ∃ k : Nat, k ≤ xs.length ∧ i = .int .i64 k ∧ xs.take k = ys.take k ∧ Below w.heap.size w wr) (fun i _ => xs.length - (intOf i).toNat)
    case atStart => exact ⟨0, Nat.zero_le _, rfl, rfl, Below.refl _ _⟩
    case round =>
      obtain ⟨k, hk, rfl, htk, hb⟩ := hrel
      have HT := Lib.hid htk
      clear htk
      by_cases hlt : k < xs.length
      · have hlt' : k < ys.length := by rw [← HL.out]; exact hlt
        obtain ⟨b1, o1, rfl, hb1, hc1⟩ := (hx.below hb).cell k hlt
        obtain ⟨b2, o2, rfl, hb2, hc2⟩ := (hy.below hb).cell k hlt'
        by_cases he : nth xs k = nth ys k
        · have he' : (nth xs k != nth ys k) = false := by simp [he]
          have HE := Lib.hid he
          clear he
          go_wp2_with fail
          go_quiet (fail)
          go_wp2_with fail
          go_roundw
          case rel =>
            refine ⟨k + 1, by omega, by go_num, ?_, by exact hb.trans (Joins.below_draws _ _ _)⟩
            rw [List.take_succ_eq_append_getElem hlt, List.take_succ_eq_append_getElem hlt', HT.out, ← nth_get, ← nth_get, HE.out]
          case measure => simp [intOf]; omega
        · have he' : (nth xs k != nth ys k) = true := by simp [he]
          have hne : eqL xs ys = false := by
            simp only [eqL, decide_eq_false_iff_not]
            intro e
            subst e
            exact he rfl
          have HN := Lib.hid hne
          clear he hne
          go_wp2_with fail
          go_quiet (fail)
          go_wp2_with fail
          go_ret
          exact ⟨ret_bool HN.out.symm, hb.trans (Joins.below_draws _ _ _)⟩
      · go_wp2_with fail
        go_ret
        refine ⟨ret_bool ?_, hb⟩
        have h1 := HT.out
        rw [List.take_of_length_le (by omega), List.take_of_length_le (by rw [← HL.out]; omega)] at h1
        simp [eqL, h1]
  · have hl' : ((xs.length : Int) != (ys.length : Int)) = true := by simp; omega
    have hne : eqL xs ys = false := by
      simp only [eqL, decide_eq_false_iff_not]
      intro e
      exact hl (by rw [e])
    have HN := Lib.hid hne
    clear hl hne
    go_enter Try.func24, Try.ntmps24
    go_wp2_with fail
    go_ret
    exact ⟨ret_bool HN.out.symm, Below.refl _ _⟩

def eqO (n : Int) (xs : List Int) (m : Int) (ys : List Int) : Bool := decide (n = m) && eqL xs ys
theorem eqO_refl (n : Int) (xs : List Int) : eqO n xs n xs = true := by simp [eqO, eqL]

theorem eqOrder_any (n m : Int) (a b : Option Addr) (xs ys : List Int) (ca cb : Nat) (w : World) (hx : Rd w a xs) (hy : Rd w b ys) :
    Calls Try.prog 17 #[.agg #[.int .i64 n, .slice a xs.length ca], .agg #[.int .i64 m, .slice b ys.length cb]] w fun e w' => e = .returned (.bool (eqO n xs m ys)) ∧ Below w.heap.size w w' := by
  by_cases hn : n = m
  · have hn' : (n != m) = false := by simp [hn]
    have HN := Lib.hid hn
    clear hn
    cases he : eqL xs ys
    all_goals
      have HO : Hid (eqO n xs m ys = eqL xs ys) := by simp [Hid, eqO, HN.out]
      have HE := Lib.hid he
      clear he
      go_enter Try.func17, Try.ntmps17
      go_wp2_with fail
      refine (eqIntS_any _ _ xs ys _ _ _ (hx.below (by repeat (first | exact Below.refl _ _ | assumption | refine Below.alloc ?_ (by first | exact Nat.le_refl _ | (simp only [World.size_alloc, World.size_setCell, World.size_drew]; omega) | omega) _ | refine Below.setCell ?_ (by first | exact Nat.le_refl _ | (simp only [World.size_alloc, World.size_setCell, World.size_drew]; omega) | omega) _ | refine Below.drew ?_))) (hy.below (by repeat (first | exact Below.refl _ _ | assumption | refine Below.alloc ?_ (by first | exact Nat.le_refl _ | (simp only [World.size_alloc, World.size_setCell, World.size_drew]; omega) | omega) _ | refine Below.setCell ?_ (by first | exact Nat.le_refl _ | (simp only [World.size_alloc, World.size_setCell, World.size_drew]; omega) | omega) _ | refine Below.drew ?_)))).mono ?_
      rintro e w1 ⟨rfl, hb⟩
      rw [HE.out]
      obtain ⟨hc, hf⟩ := bcell hb
      go_wp2_with fail
      go_ret
      exact ⟨ret_bool (by rw [HO.out, HE.out]), Below.trans (by repeat (first | exact Below.refl _ _ | assumption | refine Below.alloc ?_ (by first | exact Nat.le_refl _ | (simp only [World.size_alloc, World.size_setCell, World.size_drew]; omega) | omega) _ | refine Below.setCell ?_ (by first | exact Nat.le_refl _ | (simp only [World.size_alloc, World.size_setCell, World.size_drew]; omega) | omega) _ | refine Below.drew ?_)) (hb.mono (by first | (simp only [World.size_alloc, World.size_setCell, World.size_drew]; omega) | omega))⟩
  · have hn' : (n != m) = true := by simp [hn]
    have HO : Hid (eqO n xs m ys = false) := by simp [Hid, eqO, hn]
    clear hn
    go_enter Try.func17, Try.ntmps17
    go_wp2_with fail
    go_ret
    exact ⟨ret_bool HO.out.symm, (by repeat (first | exact Below.refl _ _ | assumption | refine Below.alloc ?_ (by first | exact Nat.le_refl _ | (simp only [World.size_alloc, World.size_setCell, World.size_drew]; omega) | omega) _ | refine Below.setCell ?_ (by first | exact Nat.le_refl _ | (simp only [World.size_alloc, World.size_setCell, World.size_drew]; omega) | omega) _ | refine Below.drew ?_))⟩

theorem boxes3 {w w1 : World} {u v u2 v2 : Value} (hb1 : Below (((w.alloc (.cells #[u, v] 26)).alloc (.cells #[u2, v2] 26)).alloc (.cells #[.int .i64 0, .slice none 0 0] 26)).heap.size (((w.alloc (.cells #[u, v] 26)).alloc (.cells #[u2, v2] 26)).alloc (.cells #[.int .i64 0, .slice none 0 0] 26)) w1) :
    Box2 w1 w.heap.size u v ∧ Box2 w1 (w.heap.size + 1) u2 v2 ∧ Var2 w1 (w.heap.size + 2) (.int .i64 0) (.slice none 0 0) ∧ Below w.heap.size w w1 := by
  refine ⟨((Box2.new w u v 26).below (((Below.refl _ _).alloc (Nat.le_refl _) _).alloc (by simp) _)).below hb1, ?_, ?_, Below.trans (by repeat (first | exact Below.refl _ _ | assumption | refine Below.alloc ?_ (by first | exact Nat.le_refl _ | (simp only [World.size_alloc, World.size_setCell, World.size_drew]; omega) | omega) _ | refine Below.setCell ?_ (by first | exact Nat.le_refl _ | (simp only [World.size_alloc, World.size_setCell, World.size_drew]; omega) | omega) _ | refine Below.drew ?_)) (hb1.mono (by first | (simp only [World.size_alloc, World.size_setCell, World.size_drew]; omega) | omega))⟩
  · have h := ((Box2.new (w.alloc (.cells #[u, v] 26)) u2 v2 26).below ((Below.refl _ _).alloc (Nat.le_refl _) (.cells #[.int .i64 0, .slice none 0 0] 26))).below hb1
    simpa using h
  · have h := (Var2.new ((w.alloc (.cells #[u, v] 26)).alloc (.cells #[u2, v2] 26)) (.int .i64 0) (.slice none 0 0) 26).below hb1
    simpa using h

/-- the list of f 0, .., f (k - 1) -/
def fmap (f : Nat → Int) (k : Nat) : List Int := (List.range k).map f
theorem fmap_len (f : Nat → Int) (k : Nat) : (fmap f k).length = k := by simp [fmap]
theorem fmap_nth (f : Nat → Int) {k i : Nat} (h : i < k) : nth (fmap f k) i = f i := by simp [nth, fmap, h]
theorem fmap_succ (f : Nat → Int) (k : Nat) : fmap f (k+1) = fmap f k ++ [f k] := by simp [fmap, List.range_succ]
/-- one store more into a row that was made -/
theorem fill_step (f : Nat → Int) (m k : Nat) (h : k < m) :
    ((fmap f k ++ List.replicate (m - k) (0:Int)).map (Value.int .i64)).set k (.int .i64 (f k)) = (fmap f (k+1) ++ List.replicate (m - (k+1)) (0:Int)).map (Value.int .i64) := by
  apply List.ext_getElem?
  intro j
  rw [List.getElem?_set]
  by_cases hj : k = j
  · subst hj
    rw [if_pos rfl, if_pos (by simp [fmap_len]; omega), List.getElem?_map, List.getElem?_append_left (by rw [fmap_len]; omega)]
    simp [fmap]
  · simp only [hj, if_false, List.getElem?_map, List.getElem?_append, fmap_len, List.getElem?_replicate]
    by_cases h1 : j < k
    · have h2 : j < k + 1 := by omega
      simp [h1, h2, fmap]
    · have h2 : ¬ j < k + 1 := by omega
      have h3 : j - k < m - k ↔ j - (k+1) < m - (k+1) := by omega
      simp [h1, h2, h3]
theorem fill_end (f : Nat → Int) (m : Nat) : fmap f m ++ List.replicate (m - m) (0:Int) = fmap f m := by simp
/-- the row that a make of m integers has made -/
theorem made_ints {w1 : World} {B : Nat} {v : Value} {m : Nat} (f : Nat → Int) (h : w1.ownsRow B 3 1 v m (madeCells (Value.int .i64 0).cells (m * 1)).toList) :
    w1.ownsRow B 3 1 v m ((fmap f 0 ++ List.replicate (m - 0) (0:Int)).map (Value.int .i64)) := by
  simpa [Value.cells, toList_madeCells_one, fmap] using h

theorem wrap64_small (n : Int) (h0 : -9223372036854775808 ≤ n) (h1 : n ≤ 9223372036854775807) : IntKind.i64.wrap n = n := by
  simp only [IntKind.wrap, IntKind.bits, IntKind.signed]
  simp
  omega
theorem i64_wrap (n : Int) : IntKind.i64.wrap n = wrap64 n := IntWalk.i64_left n
theorem ofInt_i64 (a : Nat) (ha : a < 9223372036854775808) : (BitVec.ofInt 64 (a : Int)).toNat = a := by
  simp
  omega
theorem and_nat (a b : Nat) (ha : a < 9223372036854775808) (hb : b < 9223372036854775808) : bits .and .i64 (a : Int) (b : Int) = ((a &&& b : Nat) : Int) := by
  have hx : a &&& b < 2 ^ 63 := Nat.and_lt_two_pow _ (by omega)
  show IntKind.i64.wrap ((BitVec.ofInt 64 (a : Int) &&& BitVec.ofInt 64 (b : Int)).toNat : Int) = _
  rw [BitVec.toNat_and, ofInt_i64 a ha, ofInt_i64 b hb, wrap64_small _ (by omega) (by omega)]
theorem or_nat (a b : Nat) (ha : a < 9223372036854775808) (hb : b < 9223372036854775808) : bits .or .i64 (a : Int) (b : Int) = ((a ||| b : Nat) : Int) := by
  have hx : a ||| b < 2 ^ 63 := Nat.or_lt_two_pow (by omega) (by omega)
  show IntKind.i64.wrap ((BitVec.ofInt 64 (a : Int) ||| BitVec.ofInt 64 (b : Int)).toNat : Int) = _
  rw [BitVec.toNat_or, ofInt_i64 a ha, ofInt_i64 b hb, wrap64_small _ (by omega) (by omega)]
/-- a set without the elements of another one -/
def sub (a b : Nat) : Nat := a ^^^ (a &&& b)
theorem testBit_sub (a b i : Nat) : (sub a b).testBit i = (a.testBit i && !b.testBit i) := by
  simp [sub, Nat.testBit_xor, Nat.testBit_and]
  cases a.testBit i <;> cases b.testBit i <;> rfl
theorem sub_lt {a b n : Nat} (h : a < 2 ^ n) : sub a b < 2 ^ n := by
  unfold sub
  exact Nat.xor_lt_two_pow h (by rw [Nat.and_comm]; exact Nat.and_lt_two_pow _ h)
theorem sub_nat (a b : Nat) (ha : a < 9223372036854775808) (hb : b < 9223372036854775808) : bits .andNot .i64 (a : Int) (b : Int) = ((sub a b : Nat) : Int) := by
  have hs : sub a b < 2 ^ 63 := sub_lt (by omega)
  show IntKind.i64.wrap ((BitVec.ofInt 64 (a : Int) &&& ~~~BitVec.ofInt 64 (b : Int)).toNat : Int) = _
  have e : (BitVec.ofInt 64 (a : Int) &&& ~~~BitVec.ofInt 64 (b : Int)).toNat = sub a b := by
    apply Nat.eq_of_testBit_eq
    intro i
    rw [BitVec.testBit_toNat, BitVec.getLsbD_and, BitVec.getLsbD_not, testBit_sub, ← BitVec.testBit_toNat, ← BitVec.testBit_toNat, ofInt_i64 a ha, ofInt_i64 b hb]
    by_cases hi : i < 64
    · simp [hi]
    · have : a.testBit i = false := Nat.testBit_lt_two_pow (Nat.lt_of_lt_of_le (by omega : a < 2 ^ 64) (Nat.pow_le_pow_right (by omega) (by omega)))
      simp [this]
  rw [e, wrap64_small _ (by omega) (by omega)]
theorem shr_nat (s i : Nat) (hs : s < 9223372036854775808) : (s : Int) / (2 ^ min i 64) = ((s >>> i : Nat) : Int) := by
  rw [Nat.shiftRight_eq_div_pow]
  by_cases h : i ≤ 64
  · rw [Nat.min_eq_left h]
    simp
  · rw [Nat.min_eq_right (by omega)]
    have : 2 ^ 64 ≤ 2 ^ i := Nat.pow_le_pow_right (by omega) (by omega)
    rw [Nat.div_eq_of_lt (by omega)]
    omega
theorem bit_and (s i : Nat) (hs : s < 9223372036854775808) : (bits .and .i64 ((s >>> i : Nat) : Int) 1 == 1) = s.testBit i := by
  have h1 : s >>> i ≤ s := by rw [Nat.shiftRight_eq_div_pow]; exact Nat.div_le_self _ _
  have := and_nat (s >>> i) 1 (by omega) (by omega)
  rw [show ((1 : Nat) : Int) = 1 from rfl] at this
  rw [this, Nat.testBit, Nat.and_one_is_mod, Nat.and_comm, Nat.and_one_is_mod]
  rcases Nat.mod_two_eq_zero_or_one (s >>> i) with h | h <;> simp [h]
theorem bit_mod (s i : Nat) : (((s >>> i : Nat) : Int) % 2 == 1) = s.testBit i := by
  rw [Nat.testBit, Nat.and_comm, Nat.and_one_is_mod]
  rcases Nat.mod_two_eq_zero_or_one (s >>> i) with h | h
  · have h2 : ((s >>> i : Nat) : Int) % 2 = 0 := by omega
    rw [h2, h]; rfl
  · have h2 : ((s >>> i : Nat) : Int) % 2 = 1 := by omega
    rw [h2, h]; rfl
theorem bit_tmod (s i : Nat) : (((s >>> i : Nat) : Int).tmod 2 == 1) = s.testBit i := by
  rw [Int.tmod_eq_emod_of_nonneg (Int.natCast_nonneg _), bit_mod]
/-- is i in the set s? -/
def hasB (s i : Int) : Bool := s.toNat.testBit i.toNat
theorem has_and {s i : Int} (h0 : 0 ≤ s) (h1 : s ≤ 9223372036854775807) (hi : 0 ≤ i) : (bits .and .i64 (s / 2 ^ min i.toNat 64) 1 == 1) = hasB s i := by
  obtain ⟨S, rfl⟩ := Int.eq_ofNat_of_zero_le h0
  rw [shr_nat S _ (by omega), bit_and S _ (by omega)]
  rfl
theorem has_mod {s i : Int} (h0 : 0 ≤ s) (h1 : s ≤ 9223372036854775807) (hi : 0 ≤ i) : ((s / 2 ^ min i.toNat 64).tmod 2 == 1) = hasB s i := by
  obtain ⟨S, rfl⟩ := Int.eq_ofNat_of_zero_le h0
  rw [shr_nat S _ (by omega), bit_tmod S]
  rfl
theorem pow_w {k : Nat} (h : k < 62) : wrap64 (2 ^ k) = ((2 ^ k : Nat) : Int) := by
  have : 2 ^ k ≤ 2 ^ 61 := Nat.pow_le_pow_right (by omega) (by omega)
  rw [show ((2:Int) ^ k) = ((2 ^ k : Nat) : Int) by simp]
  generalize hp : 2 ^ k = p at *
  exact IntWalk.wrap64_in _ ⟨by omega, by omega⟩
theorem or_bit {b k : Nat} (hb : b < 4611686018427387904) (hk : k < 62) : bits .or .i64 (b : Int) (wrap64 (2 ^ k)) = ((b ||| 2 ^ k : Nat) : Int) := by
  rw [pow_w hk]
  have : 2 ^ k ≤ 2 ^ 61 := Nat.pow_le_pow_right (by omega) (by omega)
  exact or_nat _ _ (by omega) (by omega)
theorem or_i {a b : Int} (ha : 0 ≤ a) (ha1 : a < 9223372036854775808) (hb : 0 ≤ b) (hb1 : b < 9223372036854775808) : bits .or .i64 a b = ((a.toNat ||| b.toNat : Nat) : Int) := by
  obtain ⟨A, rfl⟩ := Int.eq_ofNat_of_zero_le ha
  obtain ⟨B, rfl⟩ := Int.eq_ofNat_of_zero_le hb
  exact or_nat A B (by omega) (by omega)
theorem sub_i {a b : Int} (ha : 0 ≤ a) (ha1 : a < 9223372036854775808) (hb : 0 ≤ b) (hb1 : b < 9223372036854775808) : bits .andNot .i64 a b = ((sub a.toNat b.toNat : Nat) : Int) := by
  obtain ⟨A, rfl⟩ := Int.eq_ofNat_of_zero_le ha
  obtain ⟨B, rfl⟩ := Int.eq_ofNat_of_zero_le hb
  exact sub_nat A B (by omega) (by omega)
theorem or_lt {a b n : Nat} (ha : a < 2 ^ n) (hb : b < 2 ^ n) : a ||| b < 2 ^ n := Nat.or_lt_two_pow ha hb
theorem two_lt {k n : Nat} (h : k < n) : 2 ^ k < 2 ^ n := Nat.pow_lt_pow_right (by omega) h
theorem testBit_two (k i : Nat) : (2 ^ k).testBit i = decide (k = i) := Nat.testBit_two_pow

/-- the elements of a set that are less than k, in order -/
def elemsTo (s : Nat) : Nat → List Int
  | 0 => []
  | k+1 => if s.testBit k then elemsTo s k ++ [(k : Int)] else elemsTo s k
theorem elemsTo_len (s : Nat) : ∀ k, (elemsTo s k).length ≤ k
  | 0 => by simp [elemsTo]
  | k+1 => by
    have := elemsTo_len s k
    simp only [elemsTo]
    split <;> simp <;> omega
theorem mem_elemsTo (s : Nat) (x : Int) : ∀ k, x ∈ elemsTo s k ↔ ∃ i : Nat, i < k ∧ s.testBit i = true ∧ x = i
  | 0 => by simp [elemsTo]
  | k+1 => by
    have ih := mem_elemsTo s x k
    simp only [elemsTo]
    cases hb : s.testBit k
    · rw [if_neg (by simp), ih]
      constructor
      · rintro ⟨i, h1, h2, h3⟩
        exact ⟨i, by omega, h2, h3⟩
      · rintro ⟨i, h1, h2, h3⟩
        have : i ≠ k := fun e => by rw [e, hb] at h2; cases h2
        exact ⟨i, by omega, h2, h3⟩
    · rw [if_pos rfl, List.mem_append, ih]
      constructor
      · rintro (⟨i, h1, h2, h3⟩ | h)
        · exact ⟨i, by omega, h2, h3⟩
        · exact ⟨k, by omega, hb, by simpa using h⟩
      · rintro ⟨i, h1, h2, h3⟩
        by_cases e : i = k
        · exact .inr (by simp [h3, e])
        · exact .inl ⟨i, by omega, h2, h3⟩
theorem elemsTo_more (s k : Nat) (h : s >>> k = 0) : ∀ m, elemsTo s (k + m) = elemsTo s k
  | 0 => rfl
  | m+1 => by
    have hb : s.testBit (k + m) = false := by
      rw [Nat.testBit]
      have : s >>> (k + m) = 0 := by rw [Nat.shiftRight_add, h]; simp
      simp [this]
    show elemsTo s (k + m + 1) = _
    simp only [elemsTo, hb]
    exact elemsTo_more s k h m
/-- all elements of a set below 1024 -/
def elems (s : Nat) : List Int := elemsTo s 10
theorem elems_at {s k : Nat} (h : s >>> k = 0) (hk : k ≤ 10) : elemsTo s k = elems s := by
  have := elemsTo_more s k h (10 - k)
  rw [show k + (10 - k) = 10 from by omega] at this
  exact this.symm
theorem elems_len (s : Nat) : (elems s).length ≤ 10 := elemsTo_len s 10
theorem mem_elems {s : Nat} (hs : s < 1024) {x : Int} : x ∈ elems s ↔ ∃ i : Nat, s.testBit i = true ∧ x = i := by
  rw [elems, mem_elemsTo]
  constructor
  · rintro ⟨i, _, h2, h3⟩
    exact ⟨i, h2, h3⟩
  · rintro ⟨i, h2, h3⟩
    refine ⟨i, ?_, h2, h3⟩
    rcases Nat.lt_or_ge i 10 with h | h
    · exact h
    · have : s < 2 ^ i := Nat.lt_of_lt_of_le hs (Nat.pow_le_pow_right (by omega : 0 < 2) h)
      rw [Nat.testBit_lt_two_pow this] at h2
      cases h2
theorem nth_mem {xs : List Int} {k : Nat} (h : k < xs.length) : nth xs k ∈ xs := by
  rw [nth_get xs k h]; exact List.getElem_mem h
theorem mem_nth {xs : List Int} {x : Int} (h : x ∈ xs) : ∃ k, k < xs.length ∧ nth xs k = x := by
  obtain ⟨k, hk, e⟩ := List.getElem_of_mem h
  exact ⟨k, hk, by rw [nth_get xs k hk, e]⟩

def inB (n lo hi : Int) : Bool := decide (lo ≤ n) && decide (n ≤ hi)
theorem inB_iff {n lo hi : Int} : inB n lo hi = true ↔ lo ≤ n ∧ n ≤ hi := by simp [inB]
theorem inB_no {n lo hi : Int} : inB n lo hi = false ↔ n < lo ∨ hi < n := by
  rw [← Bool.not_eq_true, inB_iff]
  omega

def allB (xs : List Int) (lo hi : Int) : Bool := xs.all (fun x => inB x lo hi)
theorem allB_take (xs : List Int) (lo hi : Int) (k : Nat) (h : k < xs.length) : allB (xs.take (k+1)) lo hi = (allB (xs.take k) lo hi && inB (nth xs k) lo hi) := by
  simp only [allB]
  rw [List.take_succ_eq_append_getElem h, List.all_append]
  simp [nth, h]
theorem allB_false {xs : List Int} {lo hi : Int} {k : Nat} (h : k < xs.length) (h1 : inB (nth xs k) lo hi = false) : allB xs lo hi = false := by
  simp only [allB, List.all_eq_false]
  exact ⟨xs[k], List.getElem_mem h, by simpa [nth, h] using h1⟩
theorem allB_nth {xs : List Int} {lo hi : Int} (h : allB xs lo hi = true) {k : Nat} (hk : k < xs.length) : lo ≤ nth xs k ∧ nth xs k ≤ hi := by
  simp only [allB, List.all_eq_true] at h
  have := inB_iff.1 (h _ (List.getElem_mem hk))
  rwa [← nth_get xs k hk] at this

/-- is it a relation? -/
def relB (n : Int) (xs : List Int) : Bool := inB n 0 10 && decide ((xs.length : Int) = n) && allB xs 0 (2 ^ n.toNat - 1)
theorem relB_iff {n : Int} {xs : List Int} : relB n xs = true ↔ (0 ≤ n ∧ n ≤ 10) ∧ (xs.length : Int) = n ∧ allB xs 0 (2 ^ n.toNat - 1) = true := by
  simp [relB, inB_iff, and_assoc]
theorem pow10 {n : Nat} (h : n ≤ 10) : (1 : Int) ≤ 2 ^ n ∧ (2 : Int) ^ n ≤ 1024 := by
  have h1 : 2 ^ n ≤ 2 ^ 10 := Nat.pow_le_pow_right (by omega) h
  have h2 : 1 ≤ 2 ^ n := Nat.one_le_two_pow
  have h3 : ((2 ^ n : Nat) : Int) = (2 : Int) ^ n := by simp
  omega
theorem full_eq {n : Int} (h0 : 0 ≤ n) (h1 : n ≤ 10) : wrap64 (wrap64 (2 ^ n.toNat) - 1) = 2 ^ n.toNat - 1 := by
  have h2 := pow10 (n := n.toNat) (by omega)
  generalize (2 : Int) ^ n.toNat = p at *
  rw [IntWalk.wrap64_in p ⟨by omega, by omega⟩, IntWalk.wrap64_in _ ⟨by omega, by omega⟩]
structure RelP (n : Int) (xs : List Int) : Prop where
  n0 : 0 ≤ n
  n1 : n ≤ 10
  len : (xs.length : Int) = n
  pos : ∀ k, k < xs.length → 0 ≤ nth xs k
  lt : ∀ k, k < xs.length → nth xs k < 2 ^ xs.length
  small : ∀ k, k < xs.length → nth xs k < 1024
theorem relB_p {n : Int} {xs : List Int} (h : relB n xs = true) : RelP n xs := by
  obtain ⟨⟨h0, h1⟩, h2, h3⟩ := relB_iff.1 h
  have e : n.toNat = xs.length := by omega
  rw [e] at h3
  have hp := pow10 (n := xs.length) (by omega)
  exact ⟨h0, h1, h2, fun k hk => (allB_nth h3 hk).1, fun k hk => by have := (allB_nth h3 hk).2; omega, fun k hk => by have := (allB_nth h3 hk).2; omega⟩

/-- the set of the indices below k of the lists that have i -/
def belowTo (xs : List Int) (i : Int) : Nat → Nat
  | 0 => 0
  | k+1 => if hasB (nth xs k) i then belowTo xs i k ||| 2 ^ k else belowTo xs i k
theorem belowTo_lt (xs : List Int) (i : Int) : ∀ k, belowTo xs i k < 2 ^ k
  | 0 => by simp [belowTo]
  | k+1 => by
    have h := belowTo_lt xs i k
    have h2 : 2 ^ k < 2 ^ (k+1) := two_lt (by omega)
    simp only [belowTo]
    split
    · exact or_lt (by omega) h2
    · omega
theorem belowTo_small (xs : List Int) (i : Int) {k : Nat} (h : k ≤ 10) : belowTo xs i k < 1024 := by
  have h1 := belowTo_lt xs i k
  have h2 : 2 ^ k ≤ 2 ^ 10 := Nat.pow_le_pow_right (by omega) h
  omega
theorem belowTo_bit (xs : List Int) (i : Int) (j : Nat) : ∀ k, (belowTo xs i k).testBit j = (decide (j < k) && hasB (nth xs j) i)
  | 0 => by simp [belowTo]
  | k+1 => by
    have h := belowTo_bit xs i j k
    simp only [belowTo]
    by_cases hjk : j = k
    · subst hjk
      cases hb : hasB (nth xs j) i
      · simp [h]
      · simp [Nat.testBit_or, testBit_two]
    · have e : decide (j < k + 1) = decide (j < k) := by
        rw [decide_eq_decide]; omega
      rw [e, ← h]
      have hkj : ¬ k = j := fun e => hjk e.symm
      cases hb : hasB (nth xs k) i <;> simp [Nat.testBit_or, testBit_two, hkj]

def okAtB (xs : List Int) (k : Nat) : Bool := !hasB (nth xs k) k && (List.range xs.length).all (fun j => !hasB (nth xs k) j || sub (nth xs j).toNat (nth xs k).toNat == 0)
/-- is it an order? -/
def ordB (n : Int) (xs : List Int) : Bool := relB n xs && (List.range xs.length).all (okAtB xs)
theorem okAtB_iff {xs : List Int} {k : Nat} : okAtB xs k = true ↔ hasB (nth xs k) k = false ∧ ∀ j, j < xs.length → hasB (nth xs k) j = true → sub (nth xs j).toNat (nth xs k).toNat = 0 := by
  simp only [okAtB, Bool.and_eq_true, Bool.not_eq_true', List.all_eq_true, List.mem_range, Bool.or_eq_true, beq_iff_eq]
  constructor
  · rintro ⟨h1, h2⟩
    exact ⟨h1, fun j hj hb => (h2 j hj).resolve_left (by simp [hb])⟩
  · rintro ⟨h1, h2⟩
    refine ⟨h1, fun j hj => ?_⟩
    cases hb : hasB (nth xs k) j
    · exact .inl rfl
    · exact .inr (h2 j hj hb)
theorem ordB_iff {n : Int} {xs : List Int} : ordB n xs = true ↔ relB n xs = true ∧ ∀ k, k < xs.length → okAtB xs k = true := by
  simp [ordB]
theorem ordB_no {n : Int} {xs : List Int} {k : Nat} (hk : k < xs.length) (h : okAtB xs k = false) : ordB n xs = false := by
  rw [← Bool.not_eq_true, ordB_iff]
  rintro ⟨_, h2⟩
  rw [h2 k hk] at h
  cases h
theorem okAtB_has {xs : List Int} {k : Nat} (h : hasB (nth xs k) k = true) : okAtB xs k = false := by
  simp [okAtB, h]
theorem okAtB_sub {xs : List Int} {k j : Nat} (hj : j < xs.length) (h : hasB (nth xs k) j = true) (h2 : sub (nth xs j).toNat (nth xs k).toNat ≠ 0) : okAtB xs k = false := by
  rw [← Bool.not_eq_true, okAtB_iff]
  rintro ⟨_, h3⟩
  exact h2 (h3 j hj h)
theorem sub_zero {a b : Nat} : sub a b = 0 ↔ ∀ i, a.testBit i = true → b.testBit i = true := by
  constructor
  · intro h i hi
    have := testBit_sub a b i
    rw [h, hi] at this
    simpa using this.symm
  · intro h
    apply Nat.eq_of_testBit_eq
    intro i
    rw [testBit_sub]
    cases ha : a.testBit i
    · simp
    · simp [h i ha]
theorem has_lt {n : Int} {xs : List Int} (hp : RelP n xs) {k : Nat} (hk : k < xs.length) {j : Nat} (h : hasB (nth xs k) j = true) : j < xs.length := by
  rcases Nat.lt_or_ge j xs.length with h' | h'
  · exact h'
  · have h1 := hp.lt k hk
    have h0 := hp.pos k hk
    have h2 : (nth xs k).toNat < 2 ^ j := by
      have : (2 : Nat) ^ xs.length ≤ 2 ^ j := Nat.pow_le_pow_right (by omega) h'
      have e : ((2 ^ xs.length : Nat) : Int) = (2 : Int) ^ xs.length := by simp
      omega
    simp only [hasB] at h
    rw [Int.toNat_natCast, Nat.testBit_lt_two_pow h2] at h
    cases h

theorem ord_rel {n : Int} {xs : List Int} (h : ordB n xs = true) : RelP n xs := relB_p (ordB_iff.1 h).1

theorem OwnI.capLe {w : World} {B n cap : Nat} {a : Option Addr} {xs : List Int} (h : OwnI w B (.slice a n cap) xs) : n ≤ cap := by
  rcases h.2 with ⟨e, _⟩ | ⟨g, cap', cur, e, _, _, hc, _⟩
  · simp only [Value.slice.injEq] at e
    omega
  · simp only [Value.slice.injEq] at e
    omega
theorem Rd.take {w : World} {a : Option Addr} {xs : List Int} (h : Rd w a xs) (k : Nat) : Rd w a (xs.take k) :=
  ⟨Nat.le_trans (by rw [List.length_take]; exact Nat.min_le_right _ _) h.len, fun j hj => by
    have hj' : j < xs.length ∧ j < k := by rw [List.length_take] at hj; omega
    obtain ⟨b, off, e, hl, hc⟩ := h.cell j hj'.1
    refine ⟨b, off, e, hl, hc.trans ?_⟩
    simp [nth, List.getD_eq_getElem?_getD, List.getElem?_take, hj'.2]⟩

/-- the elements of two orders; more is added above each element of the first one -/
def togE (xs ys : List Int) (more : Nat) (k : Nat) : Int := if k < xs.length then (((nth xs k).toNat ||| more : Nat) : Int) else (((nth ys (k - xs.length)).toNat * 2 ^ xs.length : Nat) : Int)
def togs (xs ys : List Int) (more k : Nat) : List Int := fmap (togE xs ys more) k
theorem togs_len (xs ys : List Int) (more k : Nat) : (togs xs ys more k).length = k := fmap_len _ _
def togOk (n : Int) (xs : List Int) (m : Int) (ys : List Int) : Bool := ordB n xs && (ordB m ys && decide (n + m ≤ 10))
theorem togOk_iff {n m : Int} {xs ys : List Int} : togOk n xs m ys = true ↔ ordB n xs = true ∧ ordB m ys = true ∧ n + m ≤ 10 := by
  simp [togOk]
/-- what BesideOrders hands back -/
def besN (n : Int) (xs : List Int) (m : Int) (ys : List Int) : Int := if togOk n xs m ys then n + m else 0
def besL (n : Int) (xs : List Int) (m : Int) (ys : List Int) : List Int := if togOk n xs m ys then togs xs ys 0 (xs.length + ys.length) else []
/-- what StackOrders hands back -/
def stkL (n : Int) (xs : List Int) (m : Int) (ys : List Int) : List Int := if togOk n xs m ys then togs xs ys ((2 ^ ys.length - 1) * 2 ^ xs.length) (xs.length + ys.length) else []
theorem tog_small {n m : Int} {xs ys : List Int} (h : togOk n xs m ys = true) : xs.length + ys.length ≤ 10 := by
  have ⟨h1, h2, h3⟩ := togOk_iff.1 h
  have := (ord_rel h1).len
  have := (ord_rel h2).len
  omega
theorem besL_len (n : Int) (xs : List Int) (m : Int) (ys : List Int) : (besL n xs m ys).length ≤ 1048576 := by
  unfold besL
  split
  · rename_i h; have := tog_small h; rw [togs_len]; omega
  · simp
theorem stkL_len (n : Int) (xs : List Int) (m : Int) (ys : List Int) : (stkL n xs m ys).length ≤ 1048576 := by
  unfold stkL
  split
  · rename_i h; have := tog_small h; rw [togs_len]; omega
  · simp
theorem togs_first {n : Int} {xs : List Int} (hp : RelP n xs) (ys : List Int) : togs xs ys 0 xs.length = xs := by
  apply List.ext_getElem (by rw [togs_len])
  intro i h1 h2
  rw [togs_len] at h1
  rw [← nth_get _ _ (by rw [togs_len]; exact h1), ← nth_get _ _ h2]
  rw [show nth (togs xs ys 0 xs.length) i = togE xs ys 0 i from fmap_nth _ h1, togE, if_pos h1, Nat.or_zero]
  have := hp.pos i h1
  omega
theorem shl_small {y : Nat} {n m : Nat} (hy : y < 2 ^ m) (h : n + m ≤ 10) : y * 2 ^ n < 1024 := by
  have h1 : y * 2 ^ n < 2 ^ m * 2 ^ n := Nat.mul_lt_mul_of_pos_right hy (Nat.two_pow_pos n)
  rw [← Nat.pow_add] at h1
  have h2 : 2 ^ (m + n) ≤ 2 ^ 10 := Nat.pow_le_pow_right (by omega) (by omega)
  omega
theorem togs_shl {m : Int} {xs ys : List Int} (hq : RelP m ys) (h : xs.length + ys.length ≤ 10) {k : Nat} (hk : k < ys.length) (more : Nat) :
    wrap64 (nth ys k * 2 ^ xs.length) = togE xs ys more (xs.length + k) := by
  have h0 := hq.pos k hk
  have h1 := hq.lt k hk
  have hl := hq.len
  obtain ⟨y, hy⟩ := Int.eq_ofNat_of_zero_le h0
  have hy2 : y < 2 ^ ys.length := by
    have e : ((2 ^ ys.length : Nat) : Int) = (2 : Int) ^ ys.length := by simp
    rw [hy] at h1
    omega
  have hs := shl_small hy2 h
  rw [togE, if_neg (by omega), show xs.length + k - xs.length = k from by omega, hy, Int.toNat_natCast]
  have e2 : (y : Int) * 2 ^ xs.length = ((y * 2 ^ xs.length : Nat) : Int) := by simp
  rw [e2]
  exact IntWalk.wrap64_in _ ⟨by omega, by omega⟩

theorem orTogether_any (n : Int) (a : Option Addr) (xs : List Int) (cap : Nat) (m : Int) (b : Option Addr) (ys : List Int) (cap2 : Nat) (more : Nat) (w : World) (hx : Rd w a xs) (hy : Rd w b ys) (hr : RelP n xs) (hq : RelP m ys) (hs : xs.length + ys.length ≤ 10) (hmore : more < 1024) :
    Calls Try.prog 48 #[.agg #[.int .i64 n, .slice a xs.length cap], .agg #[.int .i64 m, .slice b ys.length cap2], .int .i64 more] w fun e w' => ∃ a' cap', e = .returned (.agg #[.int .i64 (n + m), .slice a' (togs xs ys more (xs.length + ys.length)).length cap']) ∧ OwnI w' w.heap.size (.slice a' (togs xs ys more (xs.length + ys.length)).length cap') (togs xs ys more (xs.length + ys.length)) ∧ Below w.heap.size w w' := by
  obtain ⟨i0, hi, hz0, hz1, hz2⟩ := info_parts infoInt
  have hn0 := hr.n0
  have hn1 := hr.n1
  have hm0 := hq.n0
  have hm1 := hq.n1
  obtain rfl : n = (xs.length : Int) := hr.len.symm
  obtain rfl : m = (ys.length : Int) := hq.len.symm
  rw [togs_len]
  go_enter Try.func48, Try.ntmps48
  go_wp2_with fail

  go_loopw [21] (fun i wr => ∃ (k : Nat) (v : Value), k ≤ xs.length ∧ i = .int .i64 k ∧ OwnI wr (w.heap.size + 4) v (togs xs ys more k) ∧ Below w.heap.size w wr ∧ Box2 wr w.heap.size (.int .i64 (xs.length : Int)) (.slice a xs.length cap) ∧ Box2 wr (w.heap.size + 1) (.int .i64 (ys.length : Int)) (.slice b ys.length cap2) ∧ Var2 wr (w.heap.size + 2) (.int .i64 0) (.slice none 0 0) ∧ Var2 wr (w.heap.size + 3) (.int .i64 ((xs.length : Int) + ys.length)) v) (fun i _ => xs.length - (intOf i).toNat)
  case atStart =>
    refine ⟨0, .slice none 0 0, Nat.zero_le _, rfl, OwnI.nil _ _, (by repeat (first | exact Below.refl _ _ | assumption | refine Below.alloc ?_ (by first | exact Nat.le_refl _ | (simp only [World.size_alloc, World.size_setCell, World.size_drew]; omega) | omega) _ | refine Below.setCell ?_ (by first | exact Nat.le_refl _ | (simp only [World.size_alloc, World.size_setCell, World.size_drew]; omega) | omega) _ | refine Below.drew ?_)), ?_, ?_, ?_, ?_⟩
    · exact (Box2.new w _ _ _).below (by repeat (first | exact Below.refl _ _ | assumption | refine Below.alloc ?_ (by first | exact Nat.le_refl _ | (simp only [World.size_alloc, World.size_setCell, World.size_drew]; omega) | omega) _ | refine Below.setCell ?_ (by first | exact Nat.le_refl _ | (simp only [World.size_alloc, World.size_setCell, World.size_drew]; omega) | omega) _ | refine Below.drew ?_))
    · have h := (Box2.new (w.alloc (.cells #[.int .i64 (xs.length : Int), .slice a xs.length cap] 26)) (.int .i64 (ys.length : Int)) (.slice b ys.length cap2) 26).below (((Below.refl _ _).alloc (Nat.le_refl _) (.cells #[.int .i64 0, .slice none 0 0] 26)).alloc (by simp) (.cells #[.int .i64 ((xs.length : Int) + ys.length), .slice none 0 0] 26))
      simpa using h
    · have h := ((Var2.new ((w.alloc (.cells #[.int .i64 (xs.length : Int), .slice a xs.length cap] 26)).alloc (.cells #[.int .i64 (ys.length : Int), .slice b ys.length cap2] 26)) (.int .i64 0) (.slice none 0 0) 26).alloc (.cells #[.int .i64 ((xs.length : Int) + ys.length), .slice none 0 0] 26))
      simpa using h
    · have h := Var2.new (((w.alloc (.cells #[.int .i64 (xs.length : Int), .slice a xs.length cap] 26)).alloc (.cells #[.int .i64 (ys.length : Int), .slice b ys.length cap2] 26)).alloc (.cells #[.int .i64 0, .slice none 0 0] 26)) (.int .i64 ((xs.length : Int) + ys.length)) (.slice none 0 0) 26
      simpa using h
  case round =>
    obtain ⟨k, v, hk, rfl, hown, hb, hA, hB, hR, hV⟩ := hrel
    have ⟨zA, cA, dA⟩ := hA
    have ⟨zB, cB, dB⟩ := hB
    have ⟨⟨zV, cV, dV⟩, fV, gV⟩ := hV
    obtain ⟨av, capv, rfl⟩ := hown.form
    rw [togs_len] at dV hV hown
    by_cases hlt : k < xs.length
    · obtain ⟨b1, off1, rfl, hbl1, hc1⟩ := (hx.below hb).cell k hlt
      have hor := or_i (hr.pos k hlt) (by have := hr.small k hlt; omega) (b := (more : Int)) (by omega) (by omega)
      have hte : ((((nth xs k).toNat ||| (more : Int).toNat : Nat)) : Int) = togE xs ys more k := by rw [togE, if_pos hlt, Int.toNat_natCast]
      rw [hte] at hor
      have HOR := Lib.hid hor
      clear hor hte
      go_wp2_with (at_builtin; rw [HOR.out]; refine wpList_append_own _ rfl _ _ 22 rfl (w.heap.size + 4) 3 i0 (.int .i64 0) 1 8 Try.underlying22 hi hz0 hz1 hz2 rfl (by decide) (.slice av k capv) k ((togs xs ys more k).map (Value.int .i64)) rfl (by have h := hown.alloc (.cells #[.int .i64 (togE xs ys more k)] 3); unfold OwnI at h; rw [togs_len] at h; exact h) ⟨wr.heap.size, 0, none⟩ 1 1 [.int .i64 (togE xs ys more k)] rfl rfl (cell_one_new _ _ _) (by intro u hu; simp at hu; subst hu; rfl) (by unfold maxLen; omega) (by omega) (by simp; omega) ?_)
      intro v' w3 hown3 hgrow _
      have hg2 := grown_alloc_set hgrow
      have o3 : OwnI w3 (w.heap.size + 4) v' (togs xs ys more (k + 1)) := by
        unfold OwnI
        rw [togs_len, togs, fmap_succ, List.map_append]
        exact hown3
      have hU := hown.lt
      have A3 := hA.kept hg2 (ne_own (fun c e => by have := hU c e; omega))
      have B3 := hB.kept hg2 (ne_own (fun c e => by have := hU c e; omega))
      have R3 := hR.kept hg2 (ne_own (fun c e => by have := hU c e; omega))
      have V3 := hV.kept hg2 (ne_own (fun c e => by have := hU c e; omega))
      have bw3 := hb.trans (below_of_grown hg2 (fun c e => by have := hU c e; omega) hb.size)
      have ⟨⟨zV3, cV3, dV3⟩, fV3, gV3⟩ := V3
      obtain ⟨a3, cap3, rfl⟩ := o3.form
      clear hown3 hgrow cV dV fV gV cB dB cA dA hU
      go_wp2_with fail
      go_roundw
      case rel => exact ⟨k + 1, _, by omega, by go_num, o3.setBelow (p := ⟨w.heap.size + 3, 1, none⟩) (show w.heap.size + 3 < w.heap.size + 4 by omega) _, bw3.setCell (p := ⟨w.heap.size + 3, 1, none⟩) (show w.heap.size ≤ w.heap.size + 3 by omega) _, A3.set (p := ⟨w.heap.size + 3, 1, none⟩) _ (show w.heap.size ≠ w.heap.size + 3 by omega), B3.set (p := ⟨w.heap.size + 3, 1, none⟩) _ (show w.heap.size + 1 ≠ w.heap.size + 3 by omega), R3.other (p := ⟨w.heap.size + 3, 1, none⟩) _ (show w.heap.size + 2 ≠ w.heap.size + 3 by omega), V3.set1 _⟩
      case measure => simp [intOf]; omega
    · obtain rfl : k = xs.length := by omega
      go_wp2_with fail
      go_loopw [37] (fun i wr => ∃ (k : Nat) (v : Value), k ≤ ys.length ∧ i = .int .i64 k ∧ OwnI wr (w.heap.size + 4) v (togs xs ys more (xs.length + k)) ∧ Below w.heap.size w wr ∧ Box2 wr w.heap.size (.int .i64 (xs.length : Int)) (.slice a xs.length cap) ∧ Box2 wr (w.heap.size + 1) (.int .i64 (ys.length : Int)) (.slice b ys.length cap2) ∧ Var2 wr (w.heap.size + 2) (.int .i64 0) (.slice none 0 0) ∧ Var2 wr (w.heap.size + 3) (.int .i64 ((xs.length : Int) + ys.length)) v) (fun i _ => ys.length - (intOf i).toNat)
      case atStart => exact ⟨0, _, Nat.zero_le _, rfl, by simpa [togs_len] using hown, hb, hA, hB, hR, hV⟩
      case round =>
        clear cA dA cB dB hV cV dV fV gV hown hR hA hB hb
        obtain ⟨k, v, hk2, rfl, hown, hb, hA, hB, hR, hV⟩ := hrel
        have ⟨zA2, cA, dA⟩ := hA
        have ⟨zB2, cB, dB⟩ := hB
        have ⟨⟨zV2, cV, dV⟩, fV, gV⟩ := hV
        obtain ⟨av2, capv2, rfl⟩ := hown.form
        rw [togs_len] at dV hV hown
        by_cases hlt2 : k < ys.length
        · obtain ⟨b1, off1, rfl, hbl1, hc1⟩ := (hy.below hb).cell k hlt2
          have hsh : IntKind.i64.wrap (nth ys k * 2 ^ xs.length) = togE xs ys more (xs.length + k) := by rw [i64_wrap]; exact togs_shl hq hs hlt2 more
          have HSH := Lib.hid hsh
          clear hsh
          have h := hown.below (w' := (wr.alloc (.cells #[.int .i64 (IntKind.i64.wrap (nth ys k * 2 ^ xs.length))] 3)).drew) ((Below.refl _ _).alloc (Nat.le_refl _) _).drew (Nat.le_refl _)
          unfold OwnI at h
          rw [togs_len] at h
          have Hown := Lib.hid h
          clear h
          have hnews := cell_one_new wr (.int .i64 (IntKind.i64.wrap (nth ys k * 2 ^ xs.length))) 3
          have Hnews := Lib.hid hnews
          clear hnews
          go_wp2_with fail
          go_region_law (refine step_append_lies _ (by rfl) _ _ _ (by rfl) (w.heap.size + 4) 3 i0 (.int .i64 0) 1 8 Try.underlying22 hi hz0 hz1 hz2 rfl (by omega) (.slice av2 (xs.length + k) capv2) (xs.length + k) ((togs xs ys more (xs.length + k)).map (Value.int .i64)) (by rfl) Hown.out ⟨wr.heap.size, 0, none⟩ 1 1 [.int .i64 (IntKind.i64.wrap (nth ys k * 2 ^ xs.length))] (by rfl) (by rfl) Hnews.out (by simp [Value.oneCell']) (by omega) (by unfold maxLen; omega) (by omega) (by simp; omega) (wr.heap.size + 1) (by simp) ?_; intro gg cap3 w3 hown3 hgrow hat hlt3; have hg2 : wr.grownBy w3 (Value.slice av2 (xs.length + k) capv2).ownBlock := grown_alloc_set (o := .cells #[.int .i64 (IntKind.i64.wrap (nth ys k * 2 ^ xs.length))] 3) ⟨hgrow.os, hgrow.tape, hgrow.output, hgrow.size, hgrow.block⟩; have V3 := hV.kept hg2 (ne_own (fun c e => by have := hown.lt c e; omega)); have ⟨⟨zV3, cV3, dV3⟩, fV3, gV3⟩ := V3)
          all_goals
            have o3 : OwnI w3 (w.heap.size + 4) (.slice (some ⟨gg, 0, none⟩) (xs.length + k + 1) cap3) (togs xs ys more (xs.length + k + 1)) := by
              unfold OwnI
              rw [togs_len, togs, fmap_succ, List.map_append, ← HSH.out]
              exact hown3
            have hU := hown.lt
            have A3 := hA.kept hg2 (ne_own (fun c e => by have := hU c e; omega))
            have B3 := hB.kept hg2 (ne_own (fun c e => by have := hU c e; omega))
            have R3 := hR.kept hg2 (ne_own (fun c e => by have := hU c e; omega))
            have bw3 := hb.trans (below_of_grown hg2 (fun c e => by have := hU c e; omega) hb.size)
            clear hown3 hgrow hU hat
            go_wp2_with fail
            go_roundw
            case rel => exact ⟨k + 1, _, by omega, by go_num, o3.setBelow (p := ⟨w.heap.size + 3, 1, none⟩) (show w.heap.size + 3 < w.heap.size + 4 by omega) _, bw3.setCell (p := ⟨w.heap.size + 3, 1, none⟩) (show w.heap.size ≤ w.heap.size + 3 by omega) _, A3.set (p := ⟨w.heap.size + 3, 1, none⟩) _ (show w.heap.size ≠ w.heap.size + 3 by omega), B3.set (p := ⟨w.heap.size + 3, 1, none⟩) _ (show w.heap.size + 1 ≠ w.heap.size + 3 by omega), R3.other (p := ⟨w.heap.size + 3, 1, none⟩) _ (show w.heap.size + 2 ≠ w.heap.size + 3 by omega), V3.set1 _⟩
            case measure => simp [intOf]; omega
        · obtain rfl : k = ys.length := by omega
          have ⟨⟨zR, cR, dR⟩, fR, gR⟩ := hR
          go_wp2_with fail
          have R3 := hR.set (.int .i64 ((xs.length : Int) + ys.length)) (.slice av2 (xs.length + ys.length) capv2)
          refine bodyPost_ret (v := .agg #[.int .i64 ((xs.length : Int) + ys.length), .slice av2 (xs.length + ys.length) capv2]) (by have ⟨⟨_, q1, q2⟩, _, _⟩ := R3; simp [results, Try.results48, go_sem, q1, q2]) rfl ?_
          refine ⟨av2, capv2, rfl, ?_, ?_⟩
          · exact ((hown.setBelow (p := ⟨w.heap.size + 2, 0, none⟩) (show w.heap.size + 2 < w.heap.size + 4 by omega) _).setBelow (p := ⟨w.heap.size + 2, 1, none⟩) (show w.heap.size + 2 < w.heap.size + 4 by omega) _).mono (by omega)
          · exact (hb.setCell (p := ⟨w.heap.size + 2, 0, none⟩) (show w.heap.size ≤ w.heap.size + 2 by omega) _).setCell (p := ⟨w.heap.size + 2, 1, none⟩) (show w.heap.size ≤ w.heap.size + 2 by omega) _

theorem orHas_any (s i : Int) (w : World) (h0 : 0 ≤ s) (h1 : s ≤ 9223372036854775807) (hi : 0 ≤ i) :
    Calls Try.prog 74 #[.int .i64 s, .int .i64 i] w fun e w' => e = .returned (.bool (hasB s i)) ∧ w = w' := by
  have H := Lib.hid (has_mod h0 h1 hi)
  go_enter Try.func74, Try.ntmps74
  go_wp2
  go_ret
  exact ⟨ret_bool H.out, rfl⟩

theorem orList_any (s : Int) (w : World) (h0 : 0 ≤ s) (h1 : s < 1024) :
    Calls Try.prog 75 #[.int .i64 s] w fun e w' => ∃ a cap, e = .returned (.slice a (elems s.toNat).length cap) ∧ OwnI w' w.heap.size (.slice a (elems s.toNat).length cap) (elems s.toNat) ∧ Below w.heap.size w w' := by
  obtain ⟨S, rfl⟩ := Int.eq_ofNat_of_zero_le h0
  have hS : S < 1024 := by omega
  obtain ⟨i0, hi, hz0, hz1, hz2⟩ := info_parts infoInt
  have hsh : ∀ k : Nat, (S : Int) / 2 ^ min k 64 = ((S >>> k : Nat) : Int) := fun k => shr_nat S k (by omega)
  have HSH := Lib.hid hsh
  clear hsh
  go_enter Try.func75, Try.ntmps75
  go_wp2_with fail
  go_loopw [3, 4] (fun v i wr => ∃ k : Nat, k ≤ 10 ∧ i = .int .i64 k ∧ wr.ownsRow w.heap.size 3 1 v (elemsTo S k).length ((elemsTo S k).map (Value.int .i64)) ∧ Below w.heap.size w wr) (fun _ i _ => 10 - (intOf i).toNat)
  case atStart => exact ⟨0, by omega, rfl, by simpa [elemsTo] using World.ownsRow_nil _ _ _ _, Below.refl _ _⟩
  case round =>
    obtain ⟨k, hk, rfl, hown, hb⟩ := hrel
    have hln := elemsTo_len S k
    have hsz := hb.size
    have hq := HSH.out k
    rw [show min k 64 = k from by omega] at hq
    by_cases hz : S >>> k = 0
    · have ht : ¬ (0 : Int) < (S : Int) / 2 ^ k := by rw [hq, hz]; omega
      have HZ := Lib.hid hz
      clear hq hz
      go_wp2_with fail
      go_ret
      have e := elems_at HZ.out hk
      rw [e] at hown
      obtain ⟨a, cap, rfl⟩ := OwnI.form hown
      exact ⟨a, cap, rfl, hown, hb⟩
    · have ht : (0 : Int) < (S : Int) / 2 ^ k := by rw [hq]; exact Int.natCast_pos.2 (Nat.pos_of_ne_zero hz)
      have hk9 : k < 10 := by
        rcases Nat.lt_or_ge k 10 with h | h
        · exact h
        · obtain rfl : k = 10 := by omega
          exact absurd (by rw [Nat.shiftRight_eq_div_pow]; exact Nat.div_eq_of_lt (by omega)) hz
      clear hq hz
      have hhas : hasB (S : Int) (k : Int) = S.testBit k := rfl
      cases hin : S.testBit k
      · rw [hin] at hhas
        go_wp2_with (go_at_call 74; refine (orHas_any _ _ _ (by omega) (by omega) (by omega)).mono ?_; rintro e w' ⟨rfl, rfl⟩)
        go_roundw
        case rel => exact ⟨k + 1, by omega, by go_num, by simpa [elemsTo, hin] using hown, hb⟩
        case measure => simp [intOf]; omega
      · rw [hin] at hhas
        go_wp2_with (first | (go_at_call 74; refine (orHas_any _ _ _ (by omega) (by omega) (by omega)).mono ?_; rintro e w' ⟨rfl, rfl⟩) | (at_builtin; refine wpList_append_own _ rfl _ _ 22 rfl w.heap.size 3 i0 (.int .i64 0) 1 8 Try.underlying22 hi hz0 hz1 hz2 rfl (by decide) _ _ _ rfl (hown.alloc _) ⟨wr.heap.size, 0, none⟩ 1 1 [.int .i64 k] rfl rfl ?c1 ?c2 ?c3 ?c4 ?c5 ?_))
        case c1 =>
          intro j u hj
          match j, hj with
          | 0, hj => simp at hj; subst hj; simp [Addr.add]
        case c2 => intro u hu; simp at hu; subst hu; rfl
        case c3 => unfold maxLen; omega
        case c4 => omega
        case c5 => simp; omega
        · intro v' w1 hown' hgrow _
          have hlt := World.ownsRow.lt hown
          have hb1 : Below w.heap.size w w1 := (hb.alloc hsz _).grown hgrow (by simp; omega) (fun b e => (hlt b e).1)
          have HO := Lib.hid hown'
          clear hown' hgrow hown
          go_wp2_with fail
          go_roundw
          case rel => exact ⟨k + 1, by omega, by go_num, by simpa [elemsTo, hin] using HO.out, hb1⟩
          case measure => simp [intOf]; omega

theorem l1In_any (n lo hi : Int) (w : World) :
    Calls Try.prog 79 #[.int .i64 n, .int .i64 lo, .int .i64 hi] w fun e w' => e = .returned (.bool (inB n lo hi)) ∧ w = w' := by
  go_enter Try.func79, Try.ntmps79
  go_wp2
  all_goals (go_ret; exact ⟨ret_bool (by simp [inB]; try omega), rfl⟩)
theorem l1In_is {n lo hi : Int} {b : Bool} (h : inB n lo hi = b) (w : World) (m : Nat) :
    Calls Try.prog 79 #[.int .i64 n, .int .i64 lo, .int .i64 hi] (w.drewN m) fun e w' => e = .returned (.bool b) ∧ ∃ k, w' = w.drewN k :=
  Calls.quiet_of_same ((l1In_any n lo hi (w.drewN m)).mono (fun e w' hh => ⟨by rw [← h]; exact hh.1, hh.2.symm⟩))

theorem l1All_any (a : Option Addr) (xs : List Int) (cap : Nat) (lo hi : Int) (w : World) (hx : Rd w a xs) :
    Calls Try.prog 89 #[.slice a xs.length cap, .int .i64 lo, .int .i64 hi] w fun e w' => e = .returned (.bool (allB xs lo hi)) ∧ w = w' := by
  have hlen := hx.len
  go_enter Try.func89, Try.ntmps89
  go_wp2_with fail
  go_loop [11] (fun i => ∃ k : Nat, k ≤ xs.length ∧ i = .int .i64 k ∧ allB (xs.take k) lo hi = true) (fun i => xs.length - (intOf i).toNat)
  case atStart => exact ⟨0, Nat.zero_le _, rfl, rfl⟩
  case round =>
    obtain ⟨k, hk, rfl, hall⟩ := hrel
    by_cases hlt : k < xs.length
    · obtain ⟨b, off, rfl, hbl, hc⟩ := hx.cell k hlt
      cases hin : inB (nth xs k) lo hi
      · have hf := Lib.hid (allB_false hlt hin)
        go_wp2_with (go_at_call 79; refine (l1In_any _ _ _ _).mono ?_; rintro e w' ⟨rfl, rfl⟩)
        go_ret
        exact ⟨ret_bool hf.out.symm, rfl⟩
      · go_wp2_with (go_at_call 79; refine (l1In_any _ _ _ _).mono ?_; rintro e w' ⟨rfl, rfl⟩)
        go_round
        case rel => exact ⟨k + 1, by omega, by go_num, by rw [allB_take _ _ _ _ hlt, hall, hin]; rfl⟩
        case measure => simp [intOf]; omega
    · go_wp2_with fail
      go_ret
      exact ⟨ret_bool (by rw [← hall, List.take_of_length_le (by omega)]), rfl⟩
theorem l1All_is {a : Option Addr} {xs : List Int} {cap : Nat} {lo hi : Int} {b : Bool} {w : World} (hx : Rd w a xs) (h : allB xs lo hi = b) (m : Nat) :
    Calls Try.prog 89 #[.slice a xs.length cap, .int .i64 lo, .int .i64 hi] (w.drewN m) fun e w' => e = .returned (.bool b) ∧ ∃ k, w' = w.drewN k :=
  Calls.quiet_of_same ((l1All_any a xs cap lo hi (w.drewN m) (hx.below (Joins.below_draws _ _ _))).mono (fun e w' hh => ⟨by rw [← h]; exact hh.1, hh.2.symm⟩))

theorem orRelation_any (n : Int) (a : Option Addr) (xs : List Int) (cap : Nat) (w : World) (hx : Rd w a xs) :
    Calls Try.prog 73 #[.agg #[.int .i64 n, .slice a xs.length cap]] w fun e w' => e = .returned (.bool (relB n xs)) ∧ Below w.heap.size w w' := by
  have hx1 := hx.alloc (.cells #[.int .i64 n, .slice a xs.length cap] 26)
  cases h1 : inB n 0 10
  · have HR : Hid (relB n xs = false) := by simp [Hid, relB, h1]
    go_enter Try.func73, Try.ntmps73
    go_wp2_with fail
    go_quiet ((go_at_call 79; exact l1In_is h1 _ _))
    go_wp2_with fail
    go_ret
    exact ⟨ret_bool HR.out.symm, (Below.refl _ _).alloc (Nat.le_refl _) _ |>.trans (Joins.below_draws _ _ _)⟩
  · have hn := inB_iff.1 h1
    cases h2 : ((xs.length : Int) == n)
    · have HR : Hid (relB n xs = false) := by
        have : ¬ (xs.length : Int) = n := by simpa using h2
        simp [Hid, relB, h1, this]
      go_enter Try.func73, Try.ntmps73
      go_wp2_with fail
      go_quiet ((go_at_call 79; exact l1In_is h1 _ _))
      go_wp2_with fail
      go_ret
      exact ⟨ret_bool HR.out.symm, (Below.refl _ _).alloc (Nat.le_refl _) _ |>.trans (Joins.below_draws _ _ _)⟩
    · cases h3 : allB xs 0 (wrap64 (wrap64 (2 ^ n.toNat) - 1))
      all_goals
        have HR : Hid (relB n xs = allB xs 0 (wrap64 (wrap64 (2 ^ n.toNat) - 1))) := by
          have : (xs.length : Int) = n := by simpa using h2
          simp only [Hid, relB, h1, this, full_eq hn.1 hn.2]
          simp
        have H3 := Lib.hid h3
        clear h3
        go_enter Try.func73, Try.ntmps73
        go_wp2_with fail
        go_quiet ((first | (go_at_call 79; exact l1In_is h1 _ _) | (go_at_call 89; exact l1All_is hx1 H3.out _)))
        go_wp2_with fail
        go_ret
        exact ⟨ret_bool (by rw [HR.out, H3.out]), (Below.refl _ _).alloc (Nat.le_refl _) _ |>.trans (Joins.below_draws _ _ _)⟩

theorem elem_at {n : Int} {xs : List Int} (hp : RelP n xs) {k : Nat} (hk : k < xs.length) {m : Nat} (hm : m < (elems (nth xs k).toNat).length) :
    ∃ i : Nat, i < xs.length ∧ hasB (nth xs k) i = true ∧ nth (elems (nth xs k).toNat) m = (i : Int) := by
  have h1 := hp.small k hk
  have h0 := hp.pos k hk
  obtain ⟨i, hb, e⟩ := (mem_elems (by omega)).1 (nth_mem hm)
  exact ⟨i, has_lt hp hk hb, hb, e⟩
theorem at_elem {n : Int} {xs : List Int} (hp : RelP n xs) {k : Nat} (hk : k < xs.length) {j : Nat} (h : hasB (nth xs k) j = true) :
    ∃ m, m < (elems (nth xs k).toNat).length ∧ nth (elems (nth xs k).toNat) m = (j : Int) := by
  have h1 := hp.small k hk
  have h0 := hp.pos k hk
  have : (j : Int) ∈ elems (nth xs k).toNat := (mem_elems (by omega)).2 ⟨j, h, rfl⟩
  obtain ⟨m, hm, e⟩ := mem_nth this
  exact ⟨m, hm, e⟩
theorem orGood_any (n : Int) (a : Option Addr) (xs : List Int) (cap : Nat) (w : World) (hx : Rd w a xs) :
    Calls Try.prog 47 #[.agg #[.int .i64 n, .slice a xs.length cap]] w fun e w' => e = .returned (.bool (ordB n xs)) ∧ Below w.heap.size w w' := by
  have hx1 := hx.alloc (.cells #[.int .i64 n, .slice a xs.length cap] 26)
  have hlen := hx.len
  cases hr : relB n xs
  · have HR : Hid (ordB n xs = false) := by simp [Hid, ordB, hr]
    go_enter Try.func47, Try.ntmps47
    go_wp2_with fail
    refine (orRelation_any _ _ _ _ _ hx1).mono ?_
    rintro e w1 ⟨rfl, hb1⟩
    go_wp2_with fail
    go_ret
    exact ⟨ret_bool HR.out.symm, Below.trans (by repeat (first | exact Below.refl _ _ | assumption | refine Below.alloc ?_ (by first | exact Nat.le_refl _ | (simp only [World.size_alloc, World.size_setCell, World.size_drew]; omega) | omega) _ | refine Below.setCell ?_ (by first | exact Nat.le_refl _ | (simp only [World.size_alloc, World.size_setCell, World.size_drew]; omega) | omega) _ | refine Below.drew ?_)) (hb1.mono (by first | (simp only [World.size_alloc, World.size_setCell, World.size_drew]; omega) | omega))⟩
  · have hp := relB_p hr
    go_enter Try.func47, Try.ntmps47
    go_wp2_with fail
    refine (orRelation_any _ _ _ _ _ hx1).mono ?_
    rintro e w1 ⟨rfl, hb1⟩
    have B1 := (Box2.new w _ _ _).below hb1
    have ⟨z1, c1, d1⟩ := B1
    have bw1 : Below w.heap.size w w1 := Below.trans (by repeat (first | exact Below.refl _ _ | assumption | refine Below.alloc ?_ (by first | exact Nat.le_refl _ | (simp only [World.size_alloc, World.size_setCell, World.size_drew]; omega) | omega) _ | refine Below.setCell ?_ (by first | exact Nat.le_refl _ | (simp only [World.size_alloc, World.size_setCell, World.size_drew]; omega) | omega) _ | refine Below.drew ?_)) (hb1.mono (by first | (simp only [World.size_alloc, World.size_setCell, World.size_drew]; omega) | omega))
    have HR := Lib.hid hr
    clear hb1
    go_wp2_with fail
    clear hr
    go_loopw [13] (fun i wr => ∃ k : Nat, k ≤ xs.length ∧ i = .int .i64 k ∧ (∀ j, j < k → okAtB xs j = true) ∧ Below w1.heap.size w1 wr) (fun i _ => xs.length - (intOf i).toNat)
    case atStart => exact ⟨0, Nat.zero_le _, rfl, fun j hj => by omega, Below.refl _ _⟩
    case round =>
      obtain ⟨k, hk, rfl, hall, hb⟩ := hrel
      have Br := B1.below hb
      have ⟨zr, cr, dr⟩ := Br
      have bwr := bw1.trans (hb.mono bw1.size)
      have HA := Lib.hid hall
      clear hall c1 d1
      by_cases hlt : k < xs.length
      · obtain ⟨b, off, rfl, hbl, hc⟩ := (hx.below bwr).cell k hlt
        have hpk := hp.pos k hlt
        have hsk := hp.small k hlt
        have hsk' : nth xs k ≤ 9223372036854775807 := by omega
        cases hin : hasB (nth xs k) k
        · go_wp2_with fail
          refine (orHas_any _ _ _ hpk hsk' (by omega)).mono ?_
          rintro e w' ⟨rfl, rfl⟩
          go_wp2_with fail
          refine (orList_any _ _ hpk hsk).mono ?_
          rintro e w2 ⟨a2, cap2, rfl, ho2, hb2⟩
          have ⟨z2, c2, d2⟩ := Br.below hb2
          have bw2 := bwr.trans (hb2.mono bwr.size)
          have hx2 := hx.below bw2
          have hr2 := ho2.rd
          have bk2 := hb.trans (hb2.mono hb.size)
          have hel := elems_len (nth xs k).toNat
          have HI := Lib.hid hin
          clear hin cr dr hc
          obtain ⟨es, hes⟩ : ∃ es, es = elems (nth xs k).toNat := ⟨_, rfl⟩
          rw [← hes] at ho2 hr2 hel
          have HES := Lib.hid hes
          rw [← hes]
          clear hes ho2 hb2
          go_wp2_with fail
          go_loop [24] (fun i => ∃ j : Nat, j ≤ es.length ∧ i = .int .i64 j ∧ (∀ m, m < j → sub (nth xs (nth es m).toNat).toNat (nth xs k).toNat = 0)) (fun i => es.length - (intOf i).toNat)
          case atStart => exact ⟨0, Nat.zero_le _, rfl, fun m hm => by omega⟩
          case round =>
            obtain ⟨j, hj, rfl, hin2⟩ := hrel
            have HIN := Lib.hid hin2
            clear hin2
            by_cases hjl : j < es.length
            · obtain ⟨b2, off2, rfl, hbl2, hc2⟩ := hr2.cell j hjl
              obtain ⟨i, hil, hib, hie⟩ : ∃ i : Nat, i < xs.length ∧ hasB (nth xs k) i = true ∧ nth es j = (i : Int) := by
                have := elem_at hp hlt (m := j) (by rw [← HES.out]; exact hjl)
                rw [← HES.out] at this
                exact this
              obtain ⟨b3, off3, e3, hbl3, hc3⟩ := hx2.cell i hil
              simp only [Option.some.injEq, Addr.mk.injEq, and_true] at e3
              obtain ⟨rfl, rfl⟩ := e3
              have hpi := hp.pos i hil
              have hsi := hp.small i hil
              have hsub := sub_i (a := nth xs i) (b := nth xs k) hpi (by omega) hpk (by omega)
              have HB := Lib.hid hib
              have HE := Lib.hid hie
              rw [hie] at hc2
              clear hib hie
              by_cases hz : sub (nth xs i).toNat (nth xs k).toNat = 0
              · have hne : (bits BinOp.andNot IntKind.i64 (nth xs i) (nth xs k) != 0) = false := by rw [hsub, hz]; rfl
                have HZ := Lib.hid hz
                clear hz hsub
                go_wp2_with fail
                go_round
                case rel =>
                  refine ⟨j + 1, by omega, by go_num, fun m hm => ?_⟩
                  by_cases e : m = j
                  · rw [e, HE.out, Int.toNat_natCast]; exact HZ.out
                  · exact HIN.out m (by omega)
                case measure => simp [intOf]; omega
              · have hne : (bits BinOp.andNot IntKind.i64 (nth xs i) (nth xs k) != 0) = true := by rw [hsub]; simp; omega
                have HN := Lib.hid (ordB_no (n := n) hlt (okAtB_sub hil HB.out hz))
                clear hz hsub
                go_wp2_with fail
                go_ret
                exact ⟨ret_bool HN.out.symm, bw2⟩
            · obtain rfl : j = es.length := by omega
              have hok : okAtB xs k = true := by
                rw [okAtB_iff]
                refine ⟨HI.out, fun j hj hbj => ?_⟩
                obtain ⟨m, hm, e⟩ := at_elem hp hlt hbj
                rw [← HES.out] at hm e
                have := HIN.out m hm
                rwa [e, Int.toNat_natCast] at this
              have HK := Lib.hid hok
              clear hok
              go_wp2_with fail
              go_roundw
              case rel =>
                refine ⟨k + 1, by omega, by go_num, fun j hj => ?_, bk2⟩
                by_cases e : j = k
                · rw [e]; exact HK.out
                · exact HA.out j (by omega)
              case measure => simp [intOf]; omega
        · have HN := Lib.hid (ordB_no (n := n) hlt (okAtB_has hin))
          go_wp2_with fail
          refine (orHas_any _ _ _ hpk hsk' (by omega)).mono ?_
          rintro e w' ⟨rfl, rfl⟩
          go_wp2_with fail
          go_ret
          exact ⟨ret_bool HN.out.symm, bwr⟩
      · obtain rfl : k = xs.length := by omega
        go_wp2_with fail
        go_ret
        exact ⟨ret_bool (ordB_iff.2 ⟨HR.out, HA.out⟩).symm, bwr⟩

def belows (xs : List Int) (k : Nat) : List Int := fmap (fun i => ((belowTo xs i xs.length : Nat) : Int)) k
theorem belows_len (xs : List Int) (k : Nat) : (belows xs k).length = k := fmap_len _ _

def mirN (n : Int) (xs : List Int) : Int := if relB n xs then n else 0
def mirL (n : Int) (xs : List Int) : List Int := if relB n xs then belows xs xs.length else []
theorem mirL_len (n : Int) (xs : List Int) : (mirL n xs).length ≤ 1048576 := by
  unfold mirL
  split
  · rename_i h
    have hp := relB_p h
    have := hp.len
    have := hp.n1
    rw [belows_len]
    omega
  · simp
/-- what a call hands back that makes an order -/
def GotO (w : World) (n : Int) (ys : List Int) (ok : Bool) (e : Ending) (w' : World) : Prop :=
  ∃ a cap, e = .returned (.tuple #[.agg #[.int .i64 n, .slice a ys.length cap], .bool ok]) ∧ OwnI w' w.heap.size (.slice a ys.length cap) ys ∧ Below w.heap.size w w'

theorem sBeside_any (n : Int) (a : Option Addr) (xs : List Int) (cap : Nat) (m : Int) (b : Option Addr) (ys : List Int) (cap2 : Nat) (w : World) (hn : -9223372036854775808 ≤ n ∧ n ≤ 9223372036854775807) (hx : Rd w a xs) (hm : -9223372036854775808 ≤ m ∧ m ≤ 9223372036854775807) (hy : Rd w b ys) :
    Calls Try.prog 20 #[.agg #[.int .i64 n, .slice a xs.length cap], .agg #[.int .i64 m, .slice b ys.length cap2]] w (GotO w (besN n xs m ys) (besL n xs m ys) (togOk n xs m ys)) := by
  have hx1 := ((hx.alloc (.cells #[.int .i64 n, .slice a xs.length cap] 26)).alloc (.cells #[.int .i64 m, .slice b ys.length cap2] 26)).alloc (.cells #[.int .i64 0, .slice none 0 0] 26)
  cases hg : ordB n xs
  · have H1 : Hid (besN n xs m ys = 0) := by simp [Hid, besN, togOk, hg]
    have H2 : Hid (besL n xs m ys = []) := by simp [Hid, besL, togOk, hg]
    have H3 : Hid (togOk n xs m ys = false) := by simp [Hid, togOk, hg]
    go_enter Try.func20, Try.ntmps20
    go_wp2_with fail
    refine (orGood_any _ _ _ _ _ hx1).mono ?_
    rintro e w1 ⟨rfl, hb1⟩
    obtain ⟨A1, B1, R1, bw1⟩ := boxes3 hb1
    clear hb1
    have ⟨⟨zR, cR, dR⟩, fR, gR⟩ := R1
    go_wp2_with fail
    have R9 := R1.set (.int .i64 0) (.slice none 0 0)
    refine bodyPost_ret (v := .tuple #[.agg #[.int .i64 0, .slice none 0 0], .bool false]) (by have ⟨⟨_, q1, q2⟩, _, _⟩ := R9; simp [results, Try.results20, go_sem, q1, q2]) rfl ?_
    rw [H1.out, H2.out, H3.out]
    refine ⟨none, 0, rfl, OwnI.nil _ _, ?_⟩
    exact (bw1.setCell (by simp <;> omega) _).setCell (by simp <;> omega) _
  · cases hh : ordB m ys
    · have H1 : Hid (besN n xs m ys = 0) := by simp [Hid, besN, togOk, hg, hh]
      have H2 : Hid (besL n xs m ys = []) := by simp [Hid, besL, togOk, hg, hh]
      have H3 : Hid (togOk n xs m ys = false) := by simp [Hid, togOk, hg, hh]
      go_enter Try.func20, Try.ntmps20
      go_wp2_with fail
      refine (orGood_any _ _ _ _ _ hx1).mono ?_
      rintro e w1 ⟨rfl, hb1⟩
      obtain ⟨A1, B1, R1, bw1⟩ := boxes3 hb1
      clear hb1
      have ⟨zB, cB, dB⟩ := B1
      go_wp2_with fail
      refine (orGood_any _ _ _ _ _ (hy.below bw1)).mono ?_
      rintro e w2 ⟨rfl, hb2⟩
      have bw2 : Below w.heap.size w w2 := bw1.trans (hb2.mono bw1.size)
      have A2 := A1.below hb2
      have B2 := B1.below hb2
      have R2 := R1.below hb2
      clear A1 B1 R1 cB dB zB hb2
      have ⟨zA, cA, dA⟩ := A2
      have ⟨zB, cB, dB⟩ := B2
      have ⟨⟨zR, cR, dR⟩, fR, gR⟩ := R2
      go_wp2_with fail
      have R9 := R2.set (.int .i64 0) (.slice none 0 0)
      refine bodyPost_ret (v := .tuple #[.agg #[.int .i64 0, .slice none 0 0], .bool false]) (by have ⟨⟨_, q1, q2⟩, _, _⟩ := R9; simp [results, Try.results20, go_sem, q1, q2]) rfl ?_
      rw [H1.out, H2.out, H3.out]
      refine ⟨none, 0, rfl, OwnI.nil _ _, ?_⟩
      exact (bw2.setCell (by simp <;> omega) _).setCell (by simp <;> omega) _
    · have hp := ord_rel hg
      have hq := ord_rel hh
      have hn0 := hp.n0
      have hn1 := hp.n1
      have hm0 := hq.n0
      have hm1 := hq.n1
      by_cases hs : n + m ≤ 10
      · have hok : togOk n xs m ys = true := by simp [togOk, hg, hh, hs]
        have H1 : Hid (besN n xs m ys = n + m) := by simp [Hid, besN, hok]
        have H2 : Hid (besL n xs m ys = togs xs ys 0 (xs.length + ys.length)) := by simp [Hid, besL, hok]
        have H3 : Hid (togOk n xs m ys = true) := hok
        have hsl := tog_small hok
        clear hok
        go_enter Try.func20, Try.ntmps20
        go_wp2_with fail
        refine (orGood_any _ _ _ _ _ hx1).mono ?_
        rintro e w1 ⟨rfl, hb1⟩
        obtain ⟨A1, B1, R1, bw1⟩ := boxes3 hb1
        clear hb1
        have ⟨zB, cB, dB⟩ := B1
        go_wp2_with fail
        refine (orGood_any _ _ _ _ _ (hy.below bw1)).mono ?_
        rintro e w2 ⟨rfl, hb2⟩
        have bw2 : Below w.heap.size w w2 := bw1.trans (hb2.mono bw1.size)
        have A2 := A1.below hb2
        have B2 := B1.below hb2
        have R2 := R1.below hb2
        clear A1 B1 R1 cB dB zB hb2
        have ⟨zA, cA, dA⟩ := A2
        have ⟨zB, cB, dB⟩ := B2
        go_wp2_with fail
        refine (orTogether_any _ _ _ _ _ _ _ _ 0 _ (hx.below bw2) (hy.below bw2) hp hq hsl (by omega)).mono ?_
        rintro e w3 ⟨a3, cap3, rfl, ho3, hb3⟩
        have R3 := R2.below hb3
        have ⟨⟨zR, cR, dR⟩, fR, gR⟩ := R3
        go_wp2_with fail
        have R9 := R3.set (.int .i64 (n + m)) (.slice a3 (togs xs ys 0 (xs.length + ys.length)).length cap3)
        refine bodyPost_ret (v := .tuple #[.agg #[.int .i64 (n + m), .slice a3 (togs xs ys 0 (xs.length + ys.length)).length cap3], .bool true]) (by have ⟨⟨_, q1, q2⟩, _, _⟩ := R9; simp [results, Try.results20, go_sem, q1, q2]) rfl ?_
        rw [H1.out, H2.out, H3.out]
        refine ⟨a3, cap3, rfl, ?_, ?_⟩
        · have z2 : w.heap.size + 2 < w2.heap.size := R2.1.1
          exact ((ho3.setBelow (p := ⟨w.heap.size + 2, 0, none⟩) (show w.heap.size + 2 < w2.heap.size from z2) _).setBelow (p := ⟨w.heap.size + 2, 1, none⟩) (show w.heap.size + 2 < w2.heap.size from z2) _).mono bw2.size
        · exact ((bw2.trans (hb3.mono bw2.size)).setCell (by simp <;> omega) _).setCell (by simp <;> omega) _
      · have H1 : Hid (besN n xs m ys = 0) := by simp [Hid, besN, togOk, hg, hh, hs]
        have H2 : Hid (besL n xs m ys = []) := by simp [Hid, besL, togOk, hg, hh, hs]
        have H3 : Hid (togOk n xs m ys = false) := by simp [Hid, togOk, hg, hh, hs]
        go_enter Try.func20, Try.ntmps20
        go_wp2_with fail
        refine (orGood_any _ _ _ _ _ hx1).mono ?_
        rintro e w1 ⟨rfl, hb1⟩
        obtain ⟨A1, B1, R1, bw1⟩ := boxes3 hb1
        clear hb1
        have ⟨zB, cB, dB⟩ := B1
        go_wp2_with fail
        refine (orGood_any _ _ _ _ _ (hy.below bw1)).mono ?_
        rintro e w2 ⟨rfl, hb2⟩
        have bw2 : Below w.heap.size w w2 := bw1.trans (hb2.mono bw1.size)
        have A2 := A1.below hb2
        have B2 := B1.below hb2
        have R2 := R1.below hb2
        clear A1 B1 R1 cB dB zB hb2
        have ⟨zA, cA, dA⟩ := A2
        have ⟨zB, cB, dB⟩ := B2
        have ⟨⟨zR, cR, dR⟩, fR, gR⟩ := R2
        go_wp2_with fail
        have R9 := R2.set (.int .i64 0) (.slice none 0 0)
        refine bodyPost_ret (v := .tuple #[.agg #[.int .i64 0, .slice none 0 0], .bool false]) (by have ⟨⟨_, q1, q2⟩, _, _⟩ := R9; simp [results, Try.results20, go_sem, q1, q2]) rfl ?_
        rw [H1.out, H2.out, H3.out]
        refine ⟨none, 0, rfl, OwnI.nil _ _, ?_⟩
        exact (bw2.setCell (by simp <;> omega) _).setCell (by simp <;> omega) _

theorem wpList_append_none {P : Program} {w : World} {ops : Array Oper} {rest : List Oper} {o : Oper} {a : Act} {Q : Exit → Act → World → Prop} (hgd : o.guard = none) (s x : Operand) (t : TypeId)
    (ho : o.op = .call { callee := .builtin .append, args := #[s, x], argTypes := #[t, t] })
    (base : Nat) (e : TypeId) (i : TypeInfo) (size : Nat) (ht : P.underlying t = some (.slice e)) (hi : P.info? e = some i)
    (v : Value) (n c : Nat) (xs : List Value) (hs : a.eval s = v) (hown : w.ownsRow base e size v n xs) (hx : a.eval x = .slice none 0 c)
    (h : wpList P ops Q rest (a.put o.dst v) w) : wpList P ops Q (o :: rest) a w := by
  refine wpList_plain hgd fun K hK => ?_
  have hrun : (Builtin.append_ #[t, t] o.type #[v, .slice none 0 c]).run P w = .ok v w := by
    rcases hown.2 with ⟨rfl, rfl⟩ | ⟨g, cap, cur, rfl, _, _, hnc, _⟩
    · simp [Builtin.append_, run_underlying ht, sizeOf, typeInfo, hi, Builtin.lenOf, Builtin.firstCells]
    · simp [Builtin.append_, run_underlying ht, sizeOf, typeInfo, hi, Builtin.lenOf, Builtin.firstCells, hnc, storeCells]
  unfold Oper.wp
  simp [execOp, ho, resolve, invoke, builtin, hs, hx, hrun, Result.andThen]
  exact hK _ _ h
theorem rd_news {w : World} {ad : Addr} {xs : List Int} (hx : Rd w (some ad) xs) : ∀ j u, (xs.map (Value.int .i64))[j]? = some u → w.cell? (ad.add j) = some u := by
  intro j u hj
  rw [List.getElem?_map, Option.map_eq_some_iff] at hj
  obtain ⟨x, hx1, rfl⟩ := hj
  obtain ⟨hlt, e⟩ := List.getElem?_eq_some_iff.1 hx1
  obtain ⟨b, off, e1, _, hc⟩ := hx.cell j hlt
  simp only [Option.some.injEq] at e1
  subst e1
  rw [Addr.add_lit, hc, nth_get xs j hlt, e]
theorem ints_one (xs : List Int) : ∀ u ∈ xs.map (Value.int .i64), u.oneCell' = true := by
  intro u hu
  obtain ⟨x, _, rfl⟩ := List.mem_map.1 hu
  rfl

theorem wpList_append_rd {w : World} {ops : Array Oper} {rest : List Oper} {o : Oper} {a : Act} {Q : Exit → Act → World → Prop} (hgd : o.guard = none) (s x : Operand)
    (ho : o.op = .call { callee := .builtin .append, args := #[s, x], argTypes := #[22, 22] })
    (base : Nat) (v : Value) (zs : List Int) (hs : a.eval s = v) (hown : OwnI w base v zs) (ad : Option Addr) (xs : List Int) (cap : Nat) (hx : a.eval x = .slice ad xs.length cap) (hr : Rd w ad xs)
    (hsm : zs.length + xs.length ≤ 1000) (hbase : base ≤ w.heap.size)
    (h : ∀ v' w', OwnI w' base v' (zs ++ xs) → w.grownBy w' v.ownBlock → wpList Try.prog ops Q rest (a.put o.dst v') w') : wpList Try.prog ops Q (o :: rest) a w := by
  obtain ⟨i0, hi, hz0, hz1, hz2⟩ := info_parts infoInt
  cases ad with
  | none =>
    have h0 : xs = [] := by
      rcases xs with _ | ⟨y, t⟩
      · rfl
      · obtain ⟨b, off, e, _⟩ := hr.cell 0 (by simp)
        cases e
    subst h0
    exact wpList_append_none hgd s x 22 ho base 3 i0 1 Try.underlying22 hi v zs.length cap (zs.map (Value.int .i64)) hs hown hx (h v w (by rw [List.append_nil]; exact hown) (World.grownBy.refl _ _))
  | some ad =>
    refine wpList_append_own _ hgd s x 22 ho base 3 i0 (.int .i64 0) 1 8 Try.underlying22 hi hz0 hz1 hz2 rfl (by decide) v zs.length (zs.map (Value.int .i64)) hs hown ad xs.length cap (xs.map (Value.int .i64)) hx (by simp) (rd_news hr) (ints_one xs) (by unfold maxLen; omega) (by omega) hbase ?_
    intro v' w' h1 h2 _
    refine h v' w' ?_ h2
    unfold OwnI
    rw [List.length_append, List.map_append]
    exact h1

/-- the set of all elements above one of those of a set that are less than k -/
def aboveTo (xs : List Int) (s : Int) : Nat → Nat
  | 0 => 0
  | k+1 => if hasB s k then aboveTo xs s k ||| (nth xs k).toNat else aboveTo xs s k
theorem aboveTo_lt {n : Int} {xs : List Int} (hp : RelP n xs) (s : Int) : ∀ k, k ≤ xs.length → aboveTo xs s k < 2 ^ 10
  | 0, _ => by simp [aboveTo]
  | k+1, hk => by
    have h := aboveTo_lt hp s k (by omega)
    have h1 := hp.small k (by omega)
    have h0 := hp.pos k (by omega)
    simp only [aboveTo]
    split
    · exact or_lt h (by omega)
    · exact h
theorem aboveTo_bit (xs : List Int) (s : Int) (j : Nat) : ∀ k, (aboveTo xs s k).testBit j = true ↔ ∃ i, i < k ∧ hasB s i = true ∧ (nth xs i).toNat.testBit j = true
  | 0 => by simp [aboveTo]
  | k+1 => by
    have ih := aboveTo_bit xs s j k
    simp only [aboveTo]
    cases hb : hasB s k
    · rw [if_neg (by simp), ih]
      constructor
      · rintro ⟨i, h1, h2, h3⟩
        exact ⟨i, by omega, h2, h3⟩
      · rintro ⟨i, h1, h2, h3⟩
        have : i ≠ k := fun e => by rw [e, hb] at h2; cases h2
        exact ⟨i, by omega, h2, h3⟩
    · rw [if_pos rfl, Nat.testBit_or, Bool.or_eq_true, ih]
      constructor
      · rintro (⟨i, h1, h2, h3⟩ | h)
        · exact ⟨i, by omega, h2, h3⟩
        · exact ⟨k, by omega, hb, h⟩
      · rintro ⟨i, h1, h2, h3⟩
        by_cases e : i = k
        · subst e; exact .inr h3
        · exact .inl ⟨i, by omega, h2, h3⟩
theorem okAtB_above {xs : List Int} {k : Nat} (h : hasB (nth xs k) k = false) : okAtB xs k = (sub (aboveTo xs (nth xs k) xs.length) (nth xs k).toNat == 0) := by
  rw [Bool.eq_iff_iff, okAtB_iff, beq_iff_eq, sub_zero]
  constructor
  · rintro ⟨_, h2⟩ i hi
    obtain ⟨j, hj, hb, ht⟩ := (aboveTo_bit _ _ _ _).1 hi
    exact sub_zero.1 (h2 j hj hb) i ht
  · intro h2
    refine ⟨h, fun j hj hb => sub_zero.2 (fun i hi => h2 i ((aboveTo_bit _ _ _ _).2 ⟨j, hj, hb, hi⟩))⟩

theorem hasElement_any (s i : Int) (w : World) (h0 : 0 ≤ s) (h1 : s ≤ 9223372036854775807) (hi : 0 ≤ i) :
    Calls Try.prog 65 #[.int .i64 s, .int .i64 i] w fun e w' => e = .returned (.bool (hasB s i)) ∧ w = w' := by
  have H := Lib.hid (has_and h0 h1 hi)
  go_enter Try.func65, Try.ntmps65
  go_wp2
  go_ret
  exact ⟨ret_bool H.out, rfl⟩

theorem aboveAny_any (n : Int) (a : Option Addr) (xs : List Int) (cap : Nat) (s : Int) (w : World) (hx : Rd w a xs) (hr : RelP n xs) (h0 : 0 ≤ s) (h1 : s ≤ 9223372036854775807) :
    Calls Try.prog 77 #[.agg #[.int .i64 n, .slice a xs.length cap], .int .i64 s] w fun e w' => e = .returned (.int .i64 (aboveTo xs s xs.length)) ∧ Below w.heap.size w w' := by
  have hx1 := hx.alloc (.cells #[.int .i64 n, .slice a xs.length cap] 26)
  obtain rfl : n = (xs.length : Int) := hr.len.symm
  have hn : xs.length ≤ 10 := by have := hr.n1; omega
  go_enter Try.func77, Try.ntmps77
  go_wp2_with fail
  go_loop [5, 9] (fun s' i' => ∃ k : Nat, k ≤ xs.length ∧ i' = .int .i64 k ∧ s' = .int .i64 (aboveTo xs s k)) (fun _ i => xs.length - (intOf i).toNat)
  case atStart => exact ⟨0, Nat.zero_le _, rfl, rfl⟩
  case round =>
    obtain ⟨k, hk, rfl, rfl⟩ := hrel
    by_cases hlt : k < xs.length
    · obtain ⟨b, off, rfl, hbl, hc⟩ := hx1.cell k hlt
      obtain ⟨b', off', e', hbl', hc'⟩ := hx.cell k hlt
      simp only [Option.some.injEq, Addr.mk.injEq, and_true] at e'
      obtain ⟨rfl, rfl⟩ := e'
      have hpk := hr.pos k hlt
      have hsk := hr.small k hlt
      have hab := aboveTo_lt hr s k hk
      have hor := Lib.hid (or_i (a := (aboveTo xs s k : Nat)) (b := nth xs k) (by omega) (by omega) hpk (by omega))
      clear hab
      cases hin : hasB s k
      · go_wp2_with (go_at_call 65; refine (hasElement_any _ _ _ h0 h1 (by omega)).mono ?_; rintro e w' ⟨rfl, rfl⟩)
        go_round
        case rel => exact ⟨k + 1, by omega, by go_num, by simp [aboveTo, hin]⟩
        case measure => simp [intOf]; omega
      · go_wp2_with (go_at_call 65; refine (hasElement_any _ _ _ h0 h1 (by omega)).mono ?_; rintro e w' ⟨rfl, rfl⟩)
        go_round
        case rel => exact ⟨k + 1, by omega, by go_num, val_int (by rw [hor.out]; simp [aboveTo, hin])⟩
        case measure => simp [intOf]; omega
    · obtain rfl : k = xs.length := by omega
      go_wp2_with fail
      go_ret
      exact ⟨rfl, (by repeat (first | exact Below.refl _ _ | assumption | refine Below.alloc ?_ (by first | exact Nat.le_refl _ | (simp only [World.size_alloc, World.size_setCell, World.size_drew]; omega) | omega) _ | refine Below.setCell ?_ (by first | exact Nat.le_refl _ | (simp only [World.size_alloc, World.size_setCell, World.size_drew]; omega) | omega) _ | refine Below.drew ?_))⟩

theorem fullSet_any (n : Int) (w : World) (h0 : 0 ≤ n) (h1 : n ≤ 10) :
    Calls Try.prog 50 #[.int .i64 n] w fun e w' => e = .returned (.int .i64 (2 ^ n.toNat - 1)) ∧ w = w' := by
  have hf := Lib.hid (full_eq h0 h1)
  go_enter Try.func50, Try.ntmps50
  go_wp2
  go_ret
  exact ⟨ret_int hf.out, rfl⟩

theorem isSet_any (s n : Int) (w : World) (h0' : 0 ≤ n) (h1' : n ≤ 10) :
    Calls Try.prog 94 #[.int .i64 s, .int .i64 n] w fun e w' => e = .returned (.bool (inB s 0 (2 ^ n.toNat - 1))) ∧ w = w' := by
  by_cases h0 : 0 ≤ s
  · by_cases h1 : s ≤ 2 ^ n.toNat - 1
    · have hf := Lib.hid (inB_iff.2 ⟨h0, h1⟩)
      go_enter Try.func94, Try.ntmps94
      go_wp2_with (go_at_call 50; refine (fullSet_any _ _ h0' h1').mono ?_; rintro e w' ⟨rfl, rfl⟩)
      go_ret
      exact ⟨ret_bool (by rw [hf.out]; try simp [h1]), rfl⟩
    · have hf := Lib.hid (inB_no (lo := 0).2 (.inr (show 2 ^ n.toNat - 1 < s by omega)))
      go_enter Try.func94, Try.ntmps94
      go_wp2_with (go_at_call 50; refine (fullSet_any _ _ h0' h1').mono ?_; rintro e w' ⟨rfl, rfl⟩)
      go_ret
      exact ⟨ret_bool (by rw [hf.out]; try simp [h1]), rfl⟩
  · have hf := Lib.hid (inB_no (hi := 2 ^ n.toNat - 1).2 (.inl (show s < 0 by omega)))
    go_enter Try.func94, Try.ntmps94
    go_wp2_with fail
    go_ret
    exact ⟨ret_bool (by rw [hf.out]; try simp [h1]), rfl⟩

theorem areSets_any (a : Option Addr) (xs : List Int) (cap : Nat) (n : Int) (w : World) (hx : Rd w a xs) (h0' : 0 ≤ n) (h1' : n ≤ 10) :
    Calls Try.prog 90 #[.slice a xs.length cap, .int .i64 n] w fun e w' => e = .returned (.bool (allB xs 0 (2 ^ n.toNat - 1))) ∧ w = w' := by
  have hlen := hx.len
  go_enter Try.func90, Try.ntmps90
  go_wp2_with fail
  go_loop [9] (fun i => ∃ k : Nat, k ≤ xs.length ∧ i = .int .i64 k ∧ allB (xs.take k) 0 (2 ^ n.toNat - 1) = true) (fun i => xs.length - (intOf i).toNat)
  case atStart => exact ⟨0, Nat.zero_le _, rfl, rfl⟩
  case round =>
    obtain ⟨k, hk, rfl, hall⟩ := hrel
    by_cases hlt : k < xs.length
    · obtain ⟨b, off, rfl, hbl, hc⟩ := hx.cell k hlt
      cases hin : inB (nth xs k) 0 (2 ^ n.toNat - 1)
      · have hf := Lib.hid (allB_false hlt hin)
        go_wp2_with (go_at_call 94; refine (isSet_any _ _ _ h0' h1').mono ?_; rintro e w' ⟨rfl, rfl⟩)
        go_ret
        exact ⟨ret_bool hf.out.symm, rfl⟩
      · go_wp2_with (go_at_call 94; refine (isSet_any _ _ _ h0' h1').mono ?_; rintro e w' ⟨rfl, rfl⟩)
        go_round
        case rel => exact ⟨k + 1, by omega, by go_num, by rw [allB_take _ _ _ _ hlt, hall, hin]; rfl⟩
        case measure => simp [intOf]; omega
    · go_wp2_with fail
      go_ret
      exact ⟨ret_bool (by rw [← hall, List.take_of_length_le (by omega)]), rfl⟩

theorem iIsRelation_any (n : Int) (a : Option Addr) (xs : List Int) (cap : Nat) (w : World) (_hn : -9223372036854775808 ≤ n ∧ n ≤ 9223372036854775807) (hx : Rd w a xs) :
    Calls Try.prog 76 #[.agg #[.int .i64 n, .slice a xs.length cap]] w fun e w' => e = .returned (.bool (relB n xs)) ∧ Below w.heap.size w w' := by
  have hx1 := hx.alloc (.cells #[.int .i64 n, .slice a xs.length cap] 26)
  have hlen := hx.len
  by_cases h0 : 0 ≤ n
  · by_cases h1 : n ≤ 10
    · cases h2 : ((xs.length : Int) == n)
      · have HR : Hid (relB n xs = false) := by
          have : ¬ (xs.length : Int) = n := by simpa using h2
          simp [Hid, relB, this]
        go_enter Try.func76, Try.ntmps76
        go_wp2_with fail
        go_ret
        exact ⟨ret_bool HR.out.symm, (by repeat (first | exact Below.refl _ _ | assumption | refine Below.alloc ?_ (by first | exact Nat.le_refl _ | (simp only [World.size_alloc, World.size_setCell, World.size_drew]; omega) | omega) _ | refine Below.setCell ?_ (by first | exact Nat.le_refl _ | (simp only [World.size_alloc, World.size_setCell, World.size_drew]; omega) | omega) _ | refine Below.drew ?_))⟩
      · have HR : Hid (relB n xs = allB xs 0 (2 ^ n.toNat - 1)) := by
          have : (xs.length : Int) = n := by simpa using h2
          simp [Hid, relB, inB, h0, h1, this]
        go_enter Try.func76, Try.ntmps76
        go_wp2_with fail
        refine (areSets_any _ _ _ _ _ hx1 h0 h1).mono ?_
        rintro e w' ⟨rfl, rfl⟩
        go_wp2_with fail
        go_ret
        exact ⟨ret_bool HR.out.symm, (by repeat (first | exact Below.refl _ _ | assumption | refine Below.alloc ?_ (by first | exact Nat.le_refl _ | (simp only [World.size_alloc, World.size_setCell, World.size_drew]; omega) | omega) _ | refine Below.setCell ?_ (by first | exact Nat.le_refl _ | (simp only [World.size_alloc, World.size_setCell, World.size_drew]; omega) | omega) _ | refine Below.drew ?_))⟩
    · have HR : Hid (relB n xs = false) := by simp [Hid, relB, inB]; omega
      go_enter Try.func76, Try.ntmps76
      go_wp2_with fail
      go_ret
      exact ⟨ret_bool HR.out.symm, (by repeat (first | exact Below.refl _ _ | assumption | refine Below.alloc ?_ (by first | exact Nat.le_refl _ | (simp only [World.size_alloc, World.size_setCell, World.size_drew]; omega) | omega) _ | refine Below.setCell ?_ (by first | exact Nat.le_refl _ | (simp only [World.size_alloc, World.size_setCell, World.size_drew]; omega) | omega) _ | refine Below.drew ?_))⟩
  · have HR : Hid (relB n xs = false) := by simp [Hid, relB, inB]; omega
    go_enter Try.func76, Try.ntmps76
    go_wp2_with fail
    go_ret
    exact ⟨ret_bool HR.out.symm, (by repeat (first | exact Below.refl _ _ | assumption | refine Below.alloc ?_ (by first | exact Nat.le_refl _ | (simp only [World.size_alloc, World.size_setCell, World.size_drew]; omega) | omega) _ | refine Below.setCell ?_ (by first | exact Nat.le_refl _ | (simp only [World.size_alloc, World.size_setCell, World.size_drew]; omega) | omega) _ | refine Below.drew ?_))⟩

theorem iIsOrder_any (n : Int) (a : Option Addr) (xs : List Int) (cap : Nat) (w : World) (hn : -9223372036854775808 ≤ n ∧ n ≤ 9223372036854775807) (hx : Rd w a xs) :
    Calls Try.prog 51 #[.agg #[.int .i64 n, .slice a xs.length cap]] w fun e w' => e = .returned (.bool (ordB n xs)) ∧ Below w.heap.size w w' := by
  have hx1 := hx.alloc (.cells #[.int .i64 n, .slice a xs.length cap] 26)
  have hlen := hx.len
  cases hr : relB n xs
  · have HR : Hid (ordB n xs = false) := by simp [Hid, ordB, hr]
    go_enter Try.func51, Try.ntmps51
    go_wp2_with fail
    refine (iIsRelation_any _ _ _ _ _ hn hx1).mono ?_
    rintro e w1 ⟨rfl, hb1⟩
    go_wp2_with fail
    go_ret
    exact ⟨ret_bool HR.out.symm, Below.trans (by repeat (first | exact Below.refl _ _ | assumption | refine Below.alloc ?_ (by first | exact Nat.le_refl _ | (simp only [World.size_alloc, World.size_setCell, World.size_drew]; omega) | omega) _ | refine Below.setCell ?_ (by first | exact Nat.le_refl _ | (simp only [World.size_alloc, World.size_setCell, World.size_drew]; omega) | omega) _ | refine Below.drew ?_)) (hb1.mono (by first | (simp only [World.size_alloc, World.size_setCell, World.size_drew]; omega) | omega))⟩
  · have hp := relB_p hr
    go_enter Try.func51, Try.ntmps51
    go_wp2_with fail
    refine (iIsRelation_any _ _ _ _ _ hn hx1).mono ?_
    rintro e w1 ⟨rfl, hb1⟩
    have B1 := (Box2.new w _ _ _).below hb1
    have ⟨z1, c1, d1⟩ := B1
    have bw1 : Below w.heap.size w w1 := Below.trans (by repeat (first | exact Below.refl _ _ | assumption | refine Below.alloc ?_ (by first | exact Nat.le_refl _ | (simp only [World.size_alloc, World.size_setCell, World.size_drew]; omega) | omega) _ | refine Below.setCell ?_ (by first | exact Nat.le_refl _ | (simp only [World.size_alloc, World.size_setCell, World.size_drew]; omega) | omega) _ | refine Below.drew ?_)) (hb1.mono (by first | (simp only [World.size_alloc, World.size_setCell, World.size_drew]; omega) | omega))
    have HR := Lib.hid hr
    clear hb1
    go_wp2_with fail
    clear hr
    go_loopw [11] (fun i wr => ∃ k : Nat, k ≤ xs.length ∧ i = .int .i64 k ∧ (∀ j, j < k → okAtB xs j = true) ∧ Below w1.heap.size w1 wr) (fun i _ => xs.length - (intOf i).toNat)
    case atStart => exact ⟨0, Nat.zero_le _, rfl, fun j hj => by omega, Below.refl _ _⟩
    case round =>
      obtain ⟨k, hk, rfl, hall, hb⟩ := hrel
      have ⟨zr, cr, dr⟩ := B1.below hb
      have bwr := bw1.trans (hb.mono bw1.size)
      have HA := Lib.hid hall
      clear hall c1 d1
      by_cases hlt : k < xs.length
      · obtain ⟨b, off, rfl, hbl, hc⟩ := (hx.below bwr).cell k hlt
        have hpk := hp.pos k hlt
        have hsk := hp.small k hlt
        have hsk' : nth xs k ≤ 9223372036854775807 := by omega
        cases hin : hasB (nth xs k) k
        · have hab := aboveTo_lt hp (nth xs k) xs.length (Nat.le_refl _)
          have hsub := sub_i (a := (aboveTo xs (nth xs k) xs.length : Nat)) (b := nth xs k) (by omega) (by omega) hpk (by omega)
          have hok := okAtB_above hin
          rw [Int.toNat_natCast] at hsub
          cases hok2 : okAtB xs k
          · rw [hok2] at hok
            have hne : (bits BinOp.andNot IntKind.i64 ((aboveTo xs (nth xs k) xs.length : Nat) : Int) (nth xs k) != 0) = true := by
              rw [hsub]
              simpa using hok.symm
            have HN := Lib.hid (ordB_no (n := n) hlt hok2)
            clear hok2 hok hsub hab
            go_wp2_with fail
            refine (hasElement_any _ _ _ hpk hsk' (by omega)).mono ?_
            rintro e w' ⟨rfl, rfl⟩
            go_wp2_with fail
            refine (aboveAny_any _ _ _ _ _ _ (hx.below bwr) hp hpk hsk').mono ?_
            rintro e w2 ⟨rfl, hb2⟩
            go_wp2_with fail
            go_ret
            exact ⟨ret_bool HN.out.symm, bwr.trans (hb2.mono bwr.size)⟩
          · rw [hok2] at hok
            have hne : (bits BinOp.andNot IntKind.i64 ((aboveTo xs (nth xs k) xs.length : Nat) : Int) (nth xs k) != 0) = false := by
              rw [hsub]
              simpa using hok.symm
            have HN := Lib.hid hok2
            clear hok2 hok hsub hab
            go_wp2_with fail
            refine (hasElement_any _ _ _ hpk hsk' (by omega)).mono ?_
            rintro e w' ⟨rfl, rfl⟩
            go_wp2_with fail
            refine (aboveAny_any _ _ _ _ _ _ (hx.below bwr) hp hpk hsk').mono ?_
            rintro e w2 ⟨rfl, hb2⟩
            go_wp2_with fail
            go_roundw
            case rel =>
              refine ⟨k + 1, by omega, by go_num, fun j hj => ?_, hb.trans (hb2.mono hb.size)⟩
              by_cases e : j = k
              · rw [e]; exact HN.out
              · exact HA.out j (by omega)
            case measure => simp [intOf]; omega
        · have HN := Lib.hid (ordB_no (n := n) hlt (okAtB_has hin))
          go_wp2_with fail
          refine (hasElement_any _ _ _ hpk hsk' (by omega)).mono ?_
          rintro e w' ⟨rfl, rfl⟩
          go_wp2_with fail
          go_ret
          exact ⟨ret_bool HN.out.symm, bwr⟩
      · obtain rfl : k = xs.length := by omega
        go_wp2_with fail
        go_ret
        exact ⟨ret_bool (ordB_iff.2 ⟨HR.out, HA.out⟩).symm, bwr⟩

theorem below_grown_none {w w' : World} {B : Nat} (h : w.grownBy w' none) (hB : B ≤ w.heap.size) : Below B w w' :=
  below_of_grown (v := .slice none 0 0) h (fun b e => by simp [Value.ownBlock] at e) hB

set_option maxRecDepth 100000 in
set_option maxHeartbeats 2000000 in
theorem iBeside_any (n : Int) (a : Option Addr) (xs : List Int) (cap : Nat) (m : Int) (b : Option Addr) (ys : List Int) (cap2 : Nat) (w : World) (hn : -9223372036854775808 ≤ n ∧ n ≤ 9223372036854775807) (hx : Rd w a xs) (hm : -9223372036854775808 ≤ m ∧ m ≤ 9223372036854775807) (hy : Rd w b ys) :
    Calls Try.prog 21 #[.agg #[.int .i64 n, .slice a xs.length cap], .agg #[.int .i64 m, .slice b ys.length cap2]] w (GotO w (besN n xs m ys) (besL n xs m ys) (togOk n xs m ys)) := by
  have hx1 := ((hx.alloc (.cells #[.int .i64 n, .slice a xs.length cap] 26)).alloc (.cells #[.int .i64 m, .slice b ys.length cap2] 26)).alloc (.cells #[.int .i64 0, .slice none 0 0] 26)
  have HN := Lib.hid hn
  have HM := Lib.hid hm
  clear hn hm
  cases hg : ordB n xs
  · have H1 : Hid (besN n xs m ys = 0) := by simp [Hid, besN, togOk, hg]
    have H2 : Hid (besL n xs m ys = []) := by simp [Hid, besL, togOk, hg]
    have H3 : Hid (togOk n xs m ys = false) := by simp [Hid, togOk, hg]
    go_enter Try.func21, Try.ntmps21
    go_wp2_with fail
    refine (iIsOrder_any _ _ _ _ _ HN.out hx1).mono ?_
    rintro e w1 ⟨rfl, hb1⟩
    obtain ⟨A1, B1, R1, bw1⟩ := boxes3 hb1
    clear hb1
    have ⟨⟨zR, cR, dR⟩, fR, gR⟩ := R1
    go_wp2_with fail
    have R9 := R1.set (.int .i64 0) (.slice none 0 0)
    refine bodyPost_ret (v := .tuple #[.agg #[.int .i64 0, .slice none 0 0], .bool false]) (by have ⟨⟨_, q1, q2⟩, _, _⟩ := R9; simp [results, Try.results21, go_sem, q1, q2]) rfl ?_
    rw [H1.out, H2.out, H3.out]
    refine ⟨none, 0, rfl, OwnI.nil _ _, ?_⟩
    exact (bw1.setCell (by simp <;> omega) _).setCell (by simp <;> omega) _
  · cases hh : ordB m ys
    · have H1 : Hid (besN n xs m ys = 0) := by simp [Hid, besN, togOk, hg, hh]
      have H2 : Hid (besL n xs m ys = []) := by simp [Hid, besL, togOk, hg, hh]
      have H3 : Hid (togOk n xs m ys = false) := by simp [Hid, togOk, hg, hh]
      go_enter Try.func21, Try.ntmps21
      go_wp2_with fail
      refine (iIsOrder_any _ _ _ _ _ HN.out hx1).mono ?_
      rintro e w1 ⟨rfl, hb1⟩
      obtain ⟨A1, B1, R1, bw1⟩ := boxes3 hb1
      clear hb1
      have ⟨zB, cB, dB⟩ := B1
      go_wp2_with fail
      refine (iIsOrder_any _ _ _ _ _ HM.out (hy.below bw1)).mono ?_
      rintro e w2 ⟨rfl, hb2⟩
      have bw2 : Below w.heap.size w w2 := bw1.trans (hb2.mono bw1.size)
      have A2 := A1.below hb2
      have B2 := B1.below hb2
      have R2 := R1.below hb2
      clear A1 B1 R1 cB dB zB hb2
      have ⟨zA, cA, dA⟩ := A2
      have ⟨zB, cB, dB⟩ := B2
      have ⟨⟨zR, cR, dR⟩, fR, gR⟩ := R2
      go_wp2_with fail
      have R9 := R2.set (.int .i64 0) (.slice none 0 0)
      refine bodyPost_ret (v := .tuple #[.agg #[.int .i64 0, .slice none 0 0], .bool false]) (by have ⟨⟨_, q1, q2⟩, _, _⟩ := R9; simp [results, Try.results21, go_sem, q1, q2]) rfl ?_
      rw [H1.out, H2.out, H3.out]
      refine ⟨none, 0, rfl, OwnI.nil _ _, ?_⟩
      exact (bw2.setCell (by simp <;> omega) _).setCell (by simp <;> omega) _
    · have hp := ord_rel hg
      have hq := ord_rel hh
      have hn0 := hp.n0
      have hn1 := hp.n1
      have hm0 := hq.n0
      have hm1 := hq.n1
      by_cases hs : n + m ≤ 10
      · have hok : togOk n xs m ys = true := by simp [togOk, hg, hh, hs]
        have H1 : Hid (besN n xs m ys = n + m) := by simp [Hid, besN, hok]
        have H2 : Hid (besL n xs m ys = togs xs ys 0 (xs.length + ys.length)) := by simp [Hid, besL, hok]
        have H3 : Hid (togOk n xs m ys = true) := hok
        have hsl := tog_small hok
        clear hok
        go_enter Try.func21, Try.ntmps21
        go_wp2_with fail
        refine (iIsOrder_any _ _ _ _ _ HN.out hx1).mono ?_
        rintro e w1 ⟨rfl, hb1⟩
        obtain ⟨A1, B1, R1, bw1⟩ := boxes3 hb1
        clear hb1
        have ⟨zB, cB, dB⟩ := B1
        go_wp2_with fail
        refine (iIsOrder_any _ _ _ _ _ HM.out (hy.below bw1)).mono ?_
        rintro e w2 ⟨rfl, hb2⟩
        have bw2 : Below w.heap.size w w2 := bw1.trans (hb2.mono bw1.size)
        have A2 := A1.below hb2
        have B2 := B1.below hb2
        have R2 := R1.below hb2
        clear A1 B1 R1 cB dB zB hb2
        have ⟨zA, cA, dA⟩ := A2
        have ⟨zB, cB, dB⟩ := B2
        have zR2 := R2.1.1
        obtain rfl : n = (xs.length : Int) := hp.len.symm
        obtain rfl : m = (ys.length : Int) := hq.len.symm
        obtain ⟨i0, hi, hz0, hz1, hz2⟩ := info_parts infoInt
        go_wp2_with (first | (at_make; refine wpList_make_own _ rfl _ _ 22 rfl w2.heap.size 3 i0 (.int .i64 0) 1 Try.underlying22 hi hz0 hz1 .i64 .i64 _ (xs.length + ys.length) rfl rfl rfl (by rw [hz2]; omega) (by unfold maxLen; omega) (Nat.le_refl _) ?_; intro w3 hown hgrow; have A3 := A2.kept hgrow (by simp); have ⟨zA3, cA3, dA3⟩ := A3; have B3 := B2.kept hgrow (by simp); have R3 := R2.kept hgrow (by simp); have bw3 : Below w.heap.size w w3 := bw2.trans (below_grown_none hgrow bw2.size); have hU2 : w2.heap.size ≤ w3.heap.size := hgrow.size; have hown3 : OwnI w3 w2.heap.size (.slice (some ⟨w2.heap.size, 0, none⟩) 0 (xs.length + ys.length)) [] := hown) | (at_builtin; refine wpList_append_rd rfl _ _ rfl w2.heap.size _ [] rfl hown3 a xs cap rfl (hx.below bw3) (by simp; omega) hU2 ?_; intro v4 w4 hown4 hg4; have hU3 := hown3.lt; have A4 := A3.kept hg4 (ne_own (fun c e => by have := hU3 c e; omega)); have B4 := B3.kept hg4 (ne_own (fun c e => by have := hU3 c e; omega)); have R4 := R3.kept hg4 (ne_own (fun c e => by have := hU3 c e; omega)); have bw4 := bw3.trans (below_of_grown hg4 (fun c e => by have := hU3 c e; have := bw2.size; omega) bw3.size); have hU4 : w2.heap.size ≤ w4.heap.size := Nat.le_trans hU2 hg4.size; have ⟨zB4, cB4, dB4⟩ := B4; rw [List.nil_append] at hown4))
        obtain ⟨a4, cap4, rfl⟩ := hown4.form
        clear hown3 hg4 hU3 A3 B3 R3 zA3 cA3 dA3 zA cA dA zB cB dB A2 B2 R2
        go_loopw [6, 39] (fun s i wr => ∃ (k : Nat) (v : Value), k ≤ ys.length ∧ i = .int .i64 k ∧ s = v ∧ OwnI wr w2.heap.size v (togs xs ys 0 (xs.length + k)) ∧ Below w.heap.size w wr ∧ w2.heap.size ≤ wr.heap.size ∧ Box2 wr w.heap.size (.int .i64 (xs.length : Int)) (.slice a xs.length cap) ∧ Box2 wr (w.heap.size + 1) (.int .i64 (ys.length : Int)) (.slice b ys.length cap2) ∧ Var2 wr (w.heap.size + 2) (.int .i64 0) (.slice none 0 0)) (fun _ i _ => ys.length - (intOf i).toNat)
        case atStart => exact ⟨0, _, Nat.zero_le _, rfl, rfl, by rw [Nat.add_zero, togs_first hp]; exact hown4, bw4, hU4, A4, B4, R4⟩
        case round =>
          clear hown4 bw4 hU4 A4 B4 R4 zB4 cB4 dB4
          obtain ⟨k, v, hk, rfl, rfl, hown, hb, hsz, hA, hB, hR⟩ := hrel
          have ⟨zA, cA, dA⟩ := hA
          have ⟨zB, cB, dB⟩ := hB
          obtain ⟨av, capv, rfl⟩ := hown.form
          rw [togs_len] at hown ⊢
          by_cases hlt : k < ys.length
          · obtain ⟨b1, off1, rfl, hbl1, hc1⟩ := (hy.below hb).cell k hlt
            have hsh : wrap64 (nth ys k * 2 ^ xs.length) = togE xs ys 0 (xs.length + k) := togs_shl hq hsl hlt 0
            have HSH := Lib.hid hsh
            clear hsh
            go_wp2_with (at_builtin; rw [HSH.out]; refine wpList_append_own _ rfl _ _ 22 rfl w2.heap.size 3 i0 (.int .i64 0) 1 8 Try.underlying22 hi hz0 hz1 hz2 rfl (by decide) (.slice av (xs.length + k) capv) (xs.length + k) ((togs xs ys 0 (xs.length + k)).map (Value.int .i64)) rfl (by have h := hown.alloc (.cells #[.int .i64 (togE xs ys 0 (xs.length + k))] 3); unfold OwnI at h; rw [togs_len] at h; exact h) ⟨wr.heap.size, 0, none⟩ 1 1 [.int .i64 (togE xs ys 0 (xs.length + k))] rfl rfl (cell_one_new _ _ _) (by intro u hu; simp at hu; subst hu; rfl) (by unfold maxLen; omega) (by omega) (by simp; omega) ?_)
            intro v' w5 hown5 hgrow _
            have hg2 := grown_alloc_set hgrow
            have o5 : OwnI w5 w2.heap.size v' (togs xs ys 0 (xs.length + (k + 1))) := by
              unfold OwnI
              rw [togs_len, ← Nat.add_assoc, togs, fmap_succ, List.map_append]
              exact hown5
            have hU := hown.lt
            have A5 := hA.kept hg2 (ne_own (fun c e => by have := hU c e; omega))
            have B5 := hB.kept hg2 (ne_own (fun c e => by have := hU c e; omega))
            have R5 := hR.kept hg2 (ne_own (fun c e => by have := hU c e; omega))
            have bw5 := hb.trans (below_of_grown hg2 (fun c e => by have := hU c e; have := bw2.size; omega) hb.size)
            have hz5 : w2.heap.size ≤ w5.heap.size := Nat.le_trans hsz hg2.size
            obtain ⟨a5, cap5, rfl⟩ := o5.form
            clear hown5 hgrow hU
            go_wp2_with fail
            go_roundw
            case rel => exact ⟨k + 1, _, by omega, by go_num, rfl, o5, bw5, hz5, A5, B5, R5⟩
            case measure => simp [intOf]; omega
          · obtain rfl : k = ys.length := by omega
            have ⟨⟨zR, cR, dR⟩, fR, gR⟩ := hR
            go_wp2_with fail
            have R9 := hR.set (.int .i64 ((xs.length : Int) + ys.length)) (.slice av (xs.length + ys.length) capv)
            refine bodyPost_ret (v := .tuple #[.agg #[.int .i64 ((xs.length : Int) + ys.length), .slice av (xs.length + ys.length) capv], .bool true]) (by have ⟨⟨_, q1, q2⟩, _, _⟩ := R9; simp [results, Try.results21, go_sem, q1, q2]) rfl ?_
            rw [H1.out, H2.out, H3.out]
            refine ⟨av, capv, by rw [togs_len], ?_, ?_⟩
            · rw [togs_len]
              exact ((hown.setBelow (p := ⟨w.heap.size + 2, 0, none⟩) (show w.heap.size + 2 < w2.heap.size from zR2) _).setBelow (p := ⟨w.heap.size + 2, 1, none⟩) (show w.heap.size + 2 < w2.heap.size from zR2) _).mono bw2.size
            · exact (hb.setCell (by simp <;> omega) _).setCell (by simp <;> omega) _
      · have H1 : Hid (besN n xs m ys = 0) := by simp [Hid, besN, togOk, hg, hh, hs]
        have H2 : Hid (besL n xs m ys = []) := by simp [Hid, besL, togOk, hg, hh, hs]
        have H3 : Hid (togOk n xs m ys = false) := by simp [Hid, togOk, hg, hh, hs]
        have hs2 : 10 < n + m := by omega
        clear hs
        go_enter Try.func21, Try.ntmps21
        go_wp2_with fail
        refine (iIsOrder_any _ _ _ _ _ HN.out hx1).mono ?_
        rintro e w1 ⟨rfl, hb1⟩
        obtain ⟨A1, B1, R1, bw1⟩ := boxes3 hb1
        clear hb1
        have ⟨zB, cB, dB⟩ := B1
        go_wp2_with fail
        refine (iIsOrder_any _ _ _ _ _ HM.out (hy.below bw1)).mono ?_
        rintro e w2 ⟨rfl, hb2⟩
        have bw2 : Below w.heap.size w w2 := bw1.trans (hb2.mono bw1.size)
        have A2 := A1.below hb2
        have B2 := B1.below hb2
        have R2 := R1.below hb2
        clear A1 B1 R1 cB dB zB hb2
        have ⟨zA, cA, dA⟩ := A2
        have ⟨zB, cB, dB⟩ := B2
        have ⟨⟨zR, cR, dR⟩, fR, gR⟩ := R2
        go_wp2_with fail
        have R9 := R2.set (.int .i64 0) (.slice none 0 0)
        refine bodyPost_ret (v := .tuple #[.agg #[.int .i64 0, .slice none 0 0], .bool false]) (by have ⟨⟨_, q1, q2⟩, _, _⟩ := R9; simp [results, Try.results21, go_sem, q1, q2]) rfl ?_
        rw [H1.out, H2.out, H3.out]
        refine ⟨none, 0, rfl, OwnI.nil _ _, ?_⟩
        exact (bw2.setCell (by simp <;> omega) _).setCell (by simp <;> omega) _

theorem cells2 {w w' : World} {b1 b2 : Nat} {u1 v1 u2 v2 : Value} (h1 : Box2 w b1 u1 v1) (h2 : Box2 w b2 u2 v2) (hb : Below w.heap.size w w') :
    w'.cell? ⟨b1, 0, none⟩ = some u1 ∧ w'.cell? ⟨b1, 1, none⟩ = some v1 ∧ w'.cell? ⟨b2, 0, none⟩ = some u2 ∧ w'.cell? ⟨b2, 1, none⟩ = some v2 :=
  ⟨(h1.below hb).2.1, (h1.below hb).2.2, (h2.below hb).2.1, (h2.below hb).2.2⟩
theorem cells2set {w : World} {b1 b2 : Nat} {u1 v1 u2 v2 x y : Value} {b : Nat} (h1 : Box2 w b1 u1 v1) (h2 : Box2 w b2 u2 v2) (e1 : b1 ≠ b) (e2 : b2 ≠ b) :
    ((w.setCell ⟨b, 0, none⟩ x).setCell ⟨b, 1, none⟩ y).cell? ⟨b1, 0, none⟩ = some u1 ∧ ((w.setCell ⟨b, 0, none⟩ x).setCell ⟨b, 1, none⟩ y).cell? ⟨b1, 1, none⟩ = some v1 ∧ ((w.setCell ⟨b, 0, none⟩ x).setCell ⟨b, 1, none⟩ y).cell? ⟨b2, 0, none⟩ = some u2 ∧ ((w.setCell ⟨b, 0, none⟩ x).setCell ⟨b, 1, none⟩ y).cell? ⟨b2, 1, none⟩ = some v2 := by
  have k1 := (h1.set (p := ⟨b, 0, none⟩) x e1).set (p := ⟨b, 1, none⟩) y e1
  have k2 := (h2.set (p := ⟨b, 0, none⟩) x e2).set (p := ⟨b, 1, none⟩) y e2
  exact ⟨k1.2.1, k1.2.2, k2.2.1, k2.2.2⟩
theorem endO {wi wd : World} {B b cap : Nat} {x : Value} {a2 : Option Addr} {L : List Int} (V : Var2 wd b (.int .i64 0) (.slice none 0 0)) (ho : OwnI wd B (.slice a2 L.length cap) L) (hb : b < B) (hi : wi.heap.size ≤ b) (ht : Below wi.heap.size wi wd) :
    Box2 ((wd.setCell ⟨b, 0, none⟩ x).setCell ⟨b, 1, none⟩ (.slice a2 L.length cap)) b x (.slice a2 L.length cap) ∧ OwnI ((wd.setCell ⟨b, 0, none⟩ x).setCell ⟨b, 1, none⟩ (.slice a2 L.length cap)) wi.heap.size (.slice a2 L.length cap) L ∧ (∀ c, (Value.slice a2 L.length cap).ownBlock = some c → c ≠ b) ∧ wi.heap.size ≤ b ∧ Below wi.heap.size wi ((wd.setCell ⟨b, 0, none⟩ x).setCell ⟨b, 1, none⟩ (.slice a2 L.length cap)) :=
  ⟨(V.set x (.slice a2 L.length cap)).1, ((ho.setBelow (p := ⟨b, 0, none⟩) hb x).setBelow (p := ⟨b, 1, none⟩) hb _).mono (by omega), fun c e => by have := (ho.lt c e).1; omega, hi, (ht.setCell (p := ⟨b, 0, none⟩) hi x).setCell (p := ⟨b, 1, none⟩) hi _⟩
theorem endA {wi wd : World} {B cap : Nat} {x : Value} {a2 : Option Addr} {L : List Int} {t : TypeId} (ho : OwnI wd B (.slice a2 L.length cap) L) (ht : Below wi.heap.size wi wd) (hB : wi.heap.size ≤ B) :
    Box2 (wd.alloc (.cells #[x, .slice a2 L.length cap] t)) wd.heap.size x (.slice a2 L.length cap) ∧ OwnI (wd.alloc (.cells #[x, .slice a2 L.length cap] t)) wi.heap.size (.slice a2 L.length cap) L ∧ (∀ c, (Value.slice a2 L.length cap).ownBlock = some c → c ≠ wd.heap.size) ∧ wi.heap.size ≤ wd.heap.size ∧ Below wi.heap.size wi (wd.alloc (.cells #[x, .slice a2 L.length cap] t)) :=
  ⟨Box2.new _ _ _ _, (ho.mono hB).alloc _, fun c e => by have := (ho.lt c e).2; omega, ht.size, ht.alloc ht.size _⟩

/-- the marks k, k + 1, .. -/
def marks (k : Int) (n : Nat) : List Int := (List.range n).map (fun (j : Nat) => k + (j : Int))
theorem marks_len (k : Int) (n : Nat) : (marks k n).length = n := by simp [marks]
theorem marks_nth {k : Int} {n j : Nat} (h : j < n) : nth (marks k n) j = k + j := by
  simp [nth, marks, h]
theorem mark_step (k : Int) (xs : List Int) (j : Nat) (h : j < xs.length) :
    ((marks k j ++ xs.drop j).map (Value.int .i64)).set j (.int .i64 (k + j)) = (marks k (j+1) ++ xs.drop (j+1)).map (Value.int .i64) := by
  apply List.ext_getElem?
  intro i
  rw [List.getElem?_set]
  by_cases hj : j = i
  · subst hj
    rw [if_pos rfl, if_pos (by simp [marks_len]; omega), List.getElem?_map, List.getElem?_append_left (by rw [marks_len]; omega)]
    simp [marks]
  · simp only [hj, if_false, List.getElem?_map, List.getElem?_append, marks_len, List.getElem?_drop]
    by_cases h1 : i < j
    · have h2 : i < j + 1 := by omega
      simp [h1, h2, marks]
    · have h2 : ¬ i < j + 1 := by omega
      have h3 : j + (i - j) = j + 1 + (i - (j + 1)) := by omega
      simp [h1, h2, h3]
theorem own_ne {v u : Value} (h : ∀ c, v.ownBlock = some c → u.ownBlock ≠ some c) : v.ownBlock = none ∨ v.ownBlock ≠ u.ownBlock := by
  cases hv : v.ownBlock with
  | none => exact .inl rfl
  | some c => exact .inr (fun e => h c hv e.symm)

theorem markIntS_any (a : Option Addr) (xs : List Int) (cap : Nat) (k : Int) (B : Nat) (w : World) (h0 : 0 ≤ k) (h1 : k ≤ 1099511627776) (hn : xs.length ≤ 1048576) (ho : OwnI w B (.slice a xs.length cap) xs) :
    Calls Try.prog 25 #[.slice a xs.length cap, .int .i64 k] w fun e w' => e = .returned (.int .i64 (k + xs.length)) ∧ OwnI w' B (.slice a xs.length cap) (marks k xs.length) ∧ w.grownBy w' (Value.slice a xs.length cap).ownBlock := by
  go_enter Try.func25, Try.ntmps25
  go_wp2_with fail
  go_loopw [1, 5] (fun k' i wr => ∃ j : Nat, j ≤ xs.length ∧ i = .int .i64 j ∧ k' = .int .i64 (k + j) ∧ wr.ownsRow B 3 1 (.slice a xs.length cap) xs.length ((marks k j ++ xs.drop j).map (Value.int .i64)) ∧ w.grownBy wr (Value.slice a xs.length cap).ownBlock) (fun _ i _ => xs.length - (intOf i).toNat)
  case atStart => exact ⟨0, Nat.zero_le _, rfl, by simp, by (have e : marks k 0 ++ xs.drop 0 = xs := by simp [marks]); rw [e]; exact ho, World.grownBy.refl _ _⟩
  case round =>
    obtain ⟨j, hj, rfl, rfl, hown, hg⟩ := hrel
    by_cases hlt : j < xs.length
    · obtain ⟨g, rfl⟩ : ∃ g, a = some ⟨g, 0, none⟩ := by
        rcases hown.2 with ⟨e, h⟩ | ⟨g, c, cur, e, _⟩
        · omega
        · simp only [Value.slice.injEq] at e
          exact ⟨g, e.1⟩
      have hst := World.ownsRow.stored hown j (.int .i64 (k + j))
      rw [mark_step k xs j hlt] at hst
      have hcc := World.ownsRow.cellAt hown j (by omega)
      have hfr := World.ownsRow.frozenAt hown j
      have hcc' : ∃ u, wr.cell? ⟨g, j, none⟩ = some u := by
        rw [hcc]
        exact ⟨_, List.getElem?_eq_getElem (by simp [marks_len]; omega)⟩
      obtain ⟨u, hu⟩ := hcc'
      have Hst := Lib.hid hst
      have Hg := Lib.hid (grown_trans hg hst.2)
      clear hst hcc hown hg
      go_wp2
      go_roundw
      case rel => exact ⟨j + 1, by omega, by go_num, by go_num, Hst.out.1, Hg.out⟩
      case measure => simp [intOf]; omega
    · obtain rfl : j = xs.length := by omega
      go_wp2
      go_ret
      refine ⟨rfl, ?_, hg⟩
      have e : marks k xs.length ++ xs.drop xs.length = marks k xs.length := by simp
      rw [e] at hown
      show World.ownsRow _ _ _ _ _ _ _
      rw [marks_len]
      exact hown

theorem markOrder_any (n : Int) (a : Option Addr) (xs : List Int) (cap : Nat) (k : Int) (B : Nat) (w : World) (h0 : 0 ≤ k) (h1 : k ≤ 1099511627776) (hn : xs.length ≤ 1048576) (ho : OwnI w B (.slice a xs.length cap) xs) :
    Calls Try.prog 18 #[.agg #[.int .i64 n, .slice a xs.length cap], .int .i64 k] w fun e w' => e = .returned (.int .i64 (k + xs.length)) ∧ OwnI w' B (.slice a xs.length cap) (marks k xs.length) ∧ w.grownBy w' (Value.slice a xs.length cap).ownBlock := by
  go_enter Try.func18, Try.ntmps18
  go_wp2_with fail
  refine (markIntS_any _ _ _ _ B _ h0 h1 hn (ho.alloc _)).mono ?_
  rintro e w1 ⟨rfl, ho1, hg1⟩
  go_wp2_with fail
  go_ret
  exact ⟨rfl, ho1, grown_alloc_set hg1⟩

theorem heldIntS_any (a : Option Addr) (n cap : Nat) (k : Int) (w : World) (h0 : 0 ≤ k) (h1 : k ≤ 1099511627776) (hn : n ≤ 1048576) (hx : Rd w a (marks k n)) :
    Calls Try.prog 26 #[.slice a n cap, .int .i64 k] w fun e w' => e = .returned (.int .i64 (k + n)) ∧ Below w.heap.size w w' := by
  go_enter Try.func26, Try.ntmps26
  go_wp2_with fail
  go_loop [1, 5] (fun k' i => ∃ j : Nat, j ≤ n ∧ i = .int .i64 j ∧ k' = .int .i64 (k + j)) (fun _ i => n - (intOf i).toNat)
  case atStart => exact ⟨0, Nat.zero_le _, rfl, by simp⟩
  case round =>
    obtain ⟨j, hj, rfl, rfl⟩ := hrel
    by_cases hlt : j < n
    · obtain ⟨b, off, rfl, hbl, hc⟩ := hx.cell j (by rw [marks_len]; exact hlt)
      rw [marks_nth hlt] at hc
      go_wp2_with fail
      go_round
      case rel => exact ⟨j + 1, by omega, by go_num, by go_num⟩
      case measure => simp [intOf]; omega
    · obtain rfl : j = n := by omega
      go_wp2_with fail
      go_ret
      exact ⟨rfl, (by repeat (first | exact Below.refl _ _ | assumption | refine Below.alloc ?_ (by first | exact Nat.le_refl _ | (simp only [World.size_alloc, World.size_setCell, World.size_drew]; omega) | omega) _ | refine Below.setCell ?_ (by first | exact Nat.le_refl _ | (simp only [World.size_alloc, World.size_setCell, World.size_drew]; omega) | omega) _ | refine Below.drew ?_))⟩

theorem heldOrder_any (m : Int) (a : Option Addr) (n cap : Nat) (k : Int) (w : World) (h0 : 0 ≤ k) (h1 : k ≤ 1099511627776) (hn : n ≤ 1048576) (hx : Rd w a (marks k n)) :
    Calls Try.prog 19 #[.agg #[.int .i64 m, .slice a n cap], .int .i64 k] w fun e w' => e = .returned (.int .i64 (k + n)) ∧ Below w.heap.size w w' := by
  have hp : 0 ≤ k + n := by omega
  go_enter Try.func19, Try.ntmps19
  go_wp2_with fail
  refine (heldIntS_any _ _ _ _ _ h0 h1 hn (hx.alloc _)).mono ?_
  rintro e w1 ⟨rfl, hb1⟩
  go_wp2_with fail
  go_ret
  exact ⟨rfl, Below.trans (by repeat (first | exact Below.refl _ _ | assumption | refine Below.alloc ?_ (by first | exact Nat.le_refl _ | (simp only [World.size_alloc, World.size_setCell, World.size_drew]; omega) | omega) _ | refine Below.setCell ?_ (by first | exact Nat.le_refl _ | (simp only [World.size_alloc, World.size_setCell, World.size_drew]; omega) | omega) _ | refine Below.drew ?_)) (hb1.mono (by first | (simp only [World.size_alloc, World.size_setCell, World.size_drew]; omega) | omega))⟩

set_option maxRecDepth 100000 in
set_option maxHeartbeats 4000000 in
theorem walk (n0 : Int) (a0 : Option Addr) (xs0 : List Int) (cap0 : Nat) (n1 : Int) (a1 : Option Addr) (xs1 : List Int) (cap1 : Nat) (w : World) (hn0 : -9223372036854775808 ≤ n0 ∧ n0 ≤ 9223372036854775807) (hx0 : Rd w a0 xs0) (hn1 : -9223372036854775808 ≤ n1 ∧ n1 ≤ 9223372036854775807) (hx1 : Rd w a1 xs1) :
    Calls Try.prog 4 #[.agg #[.int .i64 n0, .slice a0 xs0.length cap0], .agg #[.int .i64 n1, .slice a1 xs1.length cap1]] w fun e w' => e = .returned (.bool true) ∧ Below w.heap.size w w' := by
  have hR0 : (besL n0 xs0 n1 xs1).length ≤ 1048576 := besL_len n0 xs0 n1 xs1
  by_cases hs0 : 1048576 < (xs0.length : Int)
  · go_enter Try.func4, Try.ntmps4
    go_wp2_with fail
    refine (szOrder_no (by omega) (by omega) (by omega) hx0.len).mono ?_
    rintro e w1 ⟨rfl, hb1⟩
    have bw1 : Below w.heap.size w w1 := Below.trans (by repeat (first | exact Below.refl _ _ | assumption | refine Below.alloc ?_ (by first | exact Nat.le_refl _ | (simp only [World.size_alloc, World.size_setCell, World.size_drew]; omega) | omega) _ | refine Below.setCell ?_ (by first | exact Nat.le_refl _ | (simp only [World.size_alloc, World.size_setCell, World.size_drew]; omega) | omega) _ | refine Below.drew ?_)) (hb1.mono (by first | (simp only [World.size_alloc, World.size_setCell, World.size_drew]; omega) | omega))
    have A0_1 : Box2 w1 w.heap.size (.int .i64 n0) (.slice a0 xs0.length cap0) := ⟨by have := hb1.size; simp at this; omega, (hb1.cell (p := ⟨w.heap.size, 0, none⟩) (by simp <;> omega)).trans (by simp), (hb1.cell (p := ⟨w.heap.size, 1, none⟩) (by simp <;> omega)).trans (by simp)⟩
    have ⟨zA0_1, cA0_1, dA0_1⟩ := A0_1
    have A1_1 : Box2 w1 (w.heap.size + 1) (.int .i64 n1) (.slice a1 xs1.length cap1) := ⟨by have := hb1.size; simp at this; omega, (hb1.cell (p := ⟨(w.heap.size + 1), 0, none⟩) (by simp <;> omega)).trans (by simp), (hb1.cell (p := ⟨(w.heap.size + 1), 1, none⟩) (by simp <;> omega)).trans (by simp)⟩
    have ⟨zA1_1, cA1_1, dA1_1⟩ := A1_1
    go_wp2_with fail
    go_ret
    exact ⟨rfl, bw1⟩
  by_cases hs1 : 1048576 < (xs0.length : Int) + (xs1.length : Int)
  · go_enter Try.func4, Try.ntmps4
    go_wp2_with fail
    refine (szOrder_ok (by omega) (by omega)).mono ?_
    rintro e w1 ⟨rfl, hb1⟩
    have bw1 : Below w.heap.size w w1 := Below.trans (by repeat (first | exact Below.refl _ _ | assumption | refine Below.alloc ?_ (by first | exact Nat.le_refl _ | (simp only [World.size_alloc, World.size_setCell, World.size_drew]; omega) | omega) _ | refine Below.setCell ?_ (by first | exact Nat.le_refl _ | (simp only [World.size_alloc, World.size_setCell, World.size_drew]; omega) | omega) _ | refine Below.drew ?_)) (hb1.mono (by first | (simp only [World.size_alloc, World.size_setCell, World.size_drew]; omega) | omega))
    have A0_1 : Box2 w1 w.heap.size (.int .i64 n0) (.slice a0 xs0.length cap0) := ⟨by have := hb1.size; simp at this; omega, (hb1.cell (p := ⟨w.heap.size, 0, none⟩) (by simp <;> omega)).trans (by simp), (hb1.cell (p := ⟨w.heap.size, 1, none⟩) (by simp <;> omega)).trans (by simp)⟩
    have ⟨zA0_1, cA0_1, dA0_1⟩ := A0_1
    have A1_1 : Box2 w1 (w.heap.size + 1) (.int .i64 n1) (.slice a1 xs1.length cap1) := ⟨by have := hb1.size; simp at this; omega, (hb1.cell (p := ⟨(w.heap.size + 1), 0, none⟩) (by simp <;> omega)).trans (by simp), (hb1.cell (p := ⟨(w.heap.size + 1), 1, none⟩) (by simp <;> omega)).trans (by simp)⟩
    have ⟨zA1_1, cA1_1, dA1_1⟩ := A1_1
    go_wp2_with fail
    refine (szOrder_no (by omega) (by omega) (by omega) hx1.len).mono ?_
    rintro e w2 ⟨rfl, hb2⟩
    have bw2 : Below w.heap.size w w2 := bw1.trans (hb2.mono bw1.size)
    have A0_2 := A0_1.below hb2
    have ⟨zA0_2, cA0_2, dA0_2⟩ := A0_2
    have A1_2 := A1_1.below hb2
    have ⟨zA1_2, cA1_2, dA1_2⟩ := A1_2
    go_wp2_with fail
    go_ret
    exact ⟨rfl, bw2⟩
  go_enter Try.func4, Try.ntmps4
  go_wp2_with fail
  refine (szOrder_ok (by omega) (by omega)).mono ?_
  rintro e w1 ⟨rfl, hb⟩
  have bw1 : Below w.heap.size w w1 := Below.trans (by repeat (first | exact Below.refl _ _ | assumption | refine Below.alloc ?_ (by first | exact Nat.le_refl _ | (simp only [World.size_alloc, World.size_setCell, World.size_drew]; omega) | omega) _ | refine Below.setCell ?_ (by first | exact Nat.le_refl _ | (simp only [World.size_alloc, World.size_setCell, World.size_drew]; omega) | omega) _ | refine Below.drew ?_)) (hb.mono (by first | (simp only [World.size_alloc, World.size_setCell, World.size_drew]; omega) | omega))
  have z1 : w.heap.size ≤ w1.heap.size := bw1.size
  have A0_1 : Box2 w1 w.heap.size (.int .i64 n0) (.slice a0 xs0.length cap0) := ⟨by have := hb.size; simp at this; omega, (hb.cell (p := ⟨w.heap.size, 0, none⟩) (by simp <;> omega)).trans (by simp), (hb.cell (p := ⟨w.heap.size, 1, none⟩) (by simp <;> omega)).trans (by simp)⟩
  have ⟨zA0_1, cA0_1, dA0_1⟩ := A0_1
  have A1_1 : Box2 w1 (w.heap.size + 1) (.int .i64 n1) (.slice a1 xs1.length cap1) := ⟨by have := hb.size; simp at this; omega, (hb.cell (p := ⟨(w.heap.size + 1), 0, none⟩) (by simp <;> omega)).trans (by simp), (hb.cell (p := ⟨(w.heap.size + 1), 1, none⟩) (by simp <;> omega)).trans (by simp)⟩
  have ⟨zA1_1, cA1_1, dA1_1⟩ := A1_1
  clear hb
  go_wp2_with fail
  refine (szOrder_ok (by omega) (by omega)).mono ?_
  rintro e w2 ⟨rfl, hb⟩
  have ht : Below w1.heap.size w1 w2 := hb
  have z2 : w1.heap.size ≤ w2.heap.size := ht.size
  have bw2 : Below w.heap.size w w2 := bw1.trans (ht.mono bw1.size)
  have A0_2 := A0_1.below ht
  have A1_2 := A1_1.below ht
  have ⟨zA0_2, cA0_2, dA0_2⟩ := A0_2
  have ⟨zA1_2, cA1_2, dA1_2⟩ := A1_2
  clear A0_1 cA0_1 dA0_1 A1_1 cA1_1 dA1_1
  clear ht hb
  go_wp2_with fail
  go_cut [6, 7] (fun s6 s7 wx => ∃ (b6 : Nat) (a2 : Option Addr) (cap2 : Nat), s6 = .pointer (some ⟨b6, 0, none⟩) ∧ s7 = .bool (togOk n0 xs0 n1 xs1) ∧ Box2 wx b6 (.int .i64 (besN n0 xs0 n1 xs1)) (.slice a2 (besL n0 xs0 n1 xs1).length cap2) ∧ OwnI wx w2.heap.size (.slice a2 (besL n0 xs0 n1 xs1).length cap2) (besL n0 xs0 n1 xs1) ∧ (∀ b, (Value.slice a2 (besL n0 xs0 n1 xs1).length cap2).ownBlock = some b → b ≠ b6) ∧ w2.heap.size ≤ b6 ∧ Below w2.heap.size w2 wx)
  case first =>
    go_region_held3 (fun w' => w'.cell? ⟨w.heap.size, 0, none⟩ = some (.int .i64 n0) ∧ w'.cell? ⟨w.heap.size, 1, none⟩ = some (.slice a0 xs0.length cap0) ∧ w'.cell? ⟨(w.heap.size + 1), 0, none⟩ = some (.int .i64 n1) ∧ w'.cell? ⟨(w.heap.size + 1), 1, none⟩ = some (.slice a1 xs1.length cap1))
      (first | exact cells2 QA0d QA1d (by first | exact Below.refl _ _ | exact (Below.refl _ _).alloc (Nat.le_refl _) _ | exact (Below.refl _ _).drew | exact ((Below.refl _ _).alloc (Nat.le_refl _) _).drew) | exact cells2 QA0b QA1b (by first | exact Below.refl _ _ | exact (Below.refl _ _).alloc (Nat.le_refl _) _ | exact (Below.refl _ _).drew | exact ((Below.refl _ _).alloc (Nat.le_refl _) _).drew) | exact cells2 QA0a QA1a (by first | exact Below.refl _ _ | exact (Below.refl _ _).alloc (Nat.le_refl _) _ | exact (Below.refl _ _).drew | exact ((Below.refl _ _).alloc (Nat.le_refl _) _).drew) | exact cells2 A0_2 A1_2 (by first | exact Below.refl _ _ | exact (Below.refl _ _).alloc (Nat.le_refl _) _ | exact (Below.refl _ _).drew | exact ((Below.refl _ _).alloc (Nat.le_refl _) _).drew) | exact cells2set QA0d QA1d (by have := hta.size; have := htb.size; omega) (by have := hta.size; have := htb.size; omega) | go_keep)
      (first | (go_at_call 20; refine (sBeside_any _ _ _ _ _ _ _ _ _ hn0 (rT.below (by first | exact Below.refl _ _ | exact (Below.refl _ _).alloc (Nat.le_refl _) _ | exact (Below.refl _ _).drew | exact ((Below.refl _ _).alloc (Nat.le_refl _) _).drew)) hn1 (oS.rd.below (by first | exact Below.refl _ _ | exact (Below.refl _ _).alloc (Nat.le_refl _) _ | exact (Below.refl _ _).drew | exact ((Below.refl _ _).alloc (Nat.le_refl _) _).drew))).mono ?_; rintro e wd ⟨pR, qR, rfl, ho, hbd⟩; have htd : Below wb.heap.size wb wd := (by first | exact hbd | exact Below.trans (Below.refl _ wb).drew (hbd.mono (Nat.le_refl _)) | exact Below.trans ((Below.refl _ wb).alloc (Nat.le_refl _) (.cells #[.int .i64 0, .slice none 0 0] 26)) (hbd.mono (by simp)) | exact Below.trans (((Below.refl _ wb).alloc (Nat.le_refl _) (.cells #[.int .i64 0, .slice none 0 0] 26)).drew) (hbd.mono (by simp))); have htx := hta.trans ((htb.trans (htd.mono htb.size)).mono hta.size); have QA0d := QA0b.below htd; have QA1d := QA1b.below htd; (try have Vd : Var2 wd wb.heap.size (.int .i64 0) (.slice none 0 0) := (by first | exact Var2.below (w := (wb.alloc (.cells #[.int .i64 0, .slice none 0 0] 26)).drew) (Var2.new wb _ _ _) hbd | exact Var2.below (w := wb.alloc (.cells #[.int .i64 0, .slice none 0 0] 26)) (Var2.new wb _ _ _) hbd)); (try have Vd := Vb.below htd); (try have ⟨⟨zV, cV, dV⟩, fV, gV⟩ := Vd)) | (have _g := bwa; go_at_call 15; refine (toOrder_any _ _ _ _ _ (hx1.below (by first | exact bwa.drew | exact (bwa.alloc bwa.size (.cells #[.int .i64 0, .slice none 0 0] 26)).drew | exact bwa | exact bwa.alloc bwa.size (.cells #[.int .i64 0, .slice none 0 0] 26))) (by omega)).mono ?_; rintro e wb ⟨pS, qS, rfl, oS, hbb⟩; have htb : Below wa.heap.size wa wb := (by first | exact hbb | exact Below.trans (Below.refl _ wa).drew (hbb.mono (Nat.le_refl _)) | exact Below.trans ((Below.refl _ wa).alloc (Nat.le_refl _) (.cells #[.int .i64 0, .slice none 0 0] 26)) (hbb.mono (by simp)) | exact Below.trans (((Below.refl _ wa).alloc (Nat.le_refl _) (.cells #[.int .i64 0, .slice none 0 0] 26)).drew) (hbb.mono (by simp))); have bwb := bwa.trans (htb.mono bwa.size); have rT := oT.rd.below htb; have QA0b := QA0a.below htb; have QA1b := QA1a.below htb; (try have Vb : Var2 wb wa.heap.size (.int .i64 0) (.slice none 0 0) := (by first | exact Var2.below (w := (wa.alloc (.cells #[.int .i64 0, .slice none 0 0] 26)).drew) (Var2.new wa _ _ _) hbb | exact Var2.below (w := wa.alloc (.cells #[.int .i64 0, .slice none 0 0] 26)) (Var2.new wa _ _ _) hbb)); (try have Vb := Va.below htb)) | (go_at_call 15; refine (toOrder_any _ _ _ _ _ (hx0.below (by first | exact bw2.drew | exact (bw2.alloc bw2.size (.cells #[.int .i64 0, .slice none 0 0] 26)).drew | exact bw2 | exact bw2.alloc bw2.size (.cells #[.int .i64 0, .slice none 0 0] 26))) (by omega)).mono ?_; rintro e wa ⟨pT, qT, rfl, oT, hba⟩; have hta : Below w2.heap.size w2 wa := (by first | exact hba | exact Below.trans (Below.refl _ w2).drew (hba.mono (Nat.le_refl _)) | exact Below.trans ((Below.refl _ w2).alloc (Nat.le_refl _) (.cells #[.int .i64 0, .slice none 0 0] 26)) (hba.mono (by simp)) | exact Below.trans (((Below.refl _ w2).alloc (Nat.le_refl _) (.cells #[.int .i64 0, .slice none 0 0] 26)).drew) (hba.mono (by simp))); have bwa := bw2.trans (hta.mono bw2.size); have QA0a := A0_2.below hta; have QA1a := A1_2.below hta; (try have Va : Var2 wa w2.heap.size (.int .i64 0) (.slice none 0 0) := (by first | exact Var2.below (w := (w2.alloc (.cells #[.int .i64 0, .slice none 0 0] 26)).drew) (Var2.new w2 _ _ _) hba | exact Var2.below (w := w2.alloc (.cells #[.int .i64 0, .slice none 0 0] 26)) (Var2.new w2 _ _ _) hba))))
    all_goals
      go_wp2_with fail
      go_meet
      first
        | exact ⟨_, _, _, rfl, rfl, endA ho htx (by have := hta.size; have := htb.size; simp; omega)⟩
        | exact ⟨_, _, _, rfl, rfl, endO Vd ho (by have h1 := hta.size; have h2 := htb.size; (try have h3 := Va.1.1); (try have h4 := Vb.1.1); simp; try omega) (by have h1 := hta.size; have h2 := htb.size; omega) htx⟩
  case rest =>
  obtain ⟨w3, hwc⟩ : ∃ x : World, x = wc := ⟨_, rfl⟩
  subst hwc
  obtain ⟨b6R, pR0, qR0, rfl, rfl, BR0_3, ho0, UUR, hlR, ht⟩ := hcut
  have z3 : w2.heap.size ≤ w3.heap.size := ht.size
  have bw3 : Below w.heap.size w w3 := bw2.trans (ht.mono bw2.size)
  have hkR : b6R < w3.heap.size := BR0_3.1
  have A0_3 := A0_2.below ht
  have A1_3 := A1_2.below ht
  have ⟨zA0_3, cA0_3, dA0_3⟩ := A0_3
  have ⟨zA1_3, cA1_3, dA1_3⟩ := A1_3
  clear A0_2 cA0_2 dA0_2 A1_2 cA1_2 dA1_2
  have R0_3 := ho0
  have UR0 := R0_3.cut (Nat.le_refl _)
  clear ho0
  have ⟨zBR0_3, cBR0_3, dBR0_3⟩ := BR0_3
  clear ht
  go_wp2_with fail
  refine (toOrder_any _ _ _ _ _ (hx0.below bw3) (by omega)).mono ?_
  rintro e w4 ⟨pX0, qX0, rfl, ho, hb⟩
  have ht : Below w3.heap.size w3 w4 := hb
  have z4 : w3.heap.size ≤ w4.heap.size := ht.size
  have bw4 : Below w.heap.size w w4 := bw3.trans (ht.mono bw3.size)
  have A0_4 := A0_3.below ht
  have A1_4 := A1_3.below ht
  have BR0_4 := BR0_3.below ht
  have ⟨zA0_4, cA0_4, dA0_4⟩ := A0_4
  have ⟨zA1_4, cA1_4, dA1_4⟩ := A1_4
  have ⟨zBR0_4, cBR0_4, dBR0_4⟩ := BR0_4
  have R0_4 := R0_3.below ht (Nat.le_refl _)
  clear A0_3 cA0_3 dA0_3 A1_3 cA1_3 dA1_3 BR0_3 cBR0_3 dBR0_3 R0_3
  have X0_4 := ho
  have UX0 := X0_4.cut (Nat.le_refl _)
  clear ho
  clear ht hb
  go_wp2_with fail
  refine (toOrder_any _ _ _ _ _ (hx1.below (bw4.alloc bw4.size _)) (by omega)).mono ?_
  rintro e w5 ⟨pX1, qX1, rfl, ho, hb⟩
  have ht : Below w4.heap.size w4 w5 := Below.trans (by repeat (first | exact Below.refl _ _ | assumption | refine Below.alloc ?_ (by first | exact Nat.le_refl _ | (simp only [World.size_alloc, World.size_setCell, World.size_drew]; omega) | omega) _ | refine Below.setCell ?_ (by first | exact Nat.le_refl _ | (simp only [World.size_alloc, World.size_setCell, World.size_drew]; omega) | omega) _ | refine Below.drew ?_)) (hb.mono (by first | (simp only [World.size_alloc, World.size_setCell, World.size_drew]; omega) | omega))
  have z5 : w4.heap.size ≤ w5.heap.size := ht.size
  have bw5 : Below w.heap.size w w5 := bw4.trans (ht.mono bw4.size)
  have A0_5 := A0_4.below ht
  have A1_5 := A1_4.below ht
  have BR0_5 := BR0_4.below ht
  have BX0_5 : Box2 w5 w4.heap.size (.int .i64 n0) (.slice pX0 xs0.length qX0) := (Box2.new w4 _ _ 26).below hb
  have ⟨zA0_5, cA0_5, dA0_5⟩ := A0_5
  have ⟨zA1_5, cA1_5, dA1_5⟩ := A1_5
  have ⟨zBR0_5, cBR0_5, dBR0_5⟩ := BR0_5
  have ⟨zBX0_5, cBX0_5, dBX0_5⟩ := BX0_5
  have R0_5 := R0_4.below ht (Nat.le_refl _)
  have X0_5 := X0_4.below ht (Nat.le_refl _)
  clear A0_4 cA0_4 dA0_4 A1_4 cA1_4 dA1_4 BR0_4 cBR0_4 dBR0_4 R0_4 X0_4
  have X1_5 := ho
  have UX1 := X1_5.cut (Nat.le_refl _); simp only [World.size_alloc] at UX1
  clear ho
  clear ht hb
  go_wp2_with fail
  refine (iBeside_any _ _ _ _ _ _ _ _ _ hn0 (X0_5.rd.below (by repeat (first | exact Below.refl _ _ | assumption | refine Below.alloc ?_ (by first | exact Nat.le_refl _ | (simp only [World.size_alloc, World.size_setCell, World.size_drew]; omega) | omega) _ | refine Below.setCell ?_ (by first | exact Nat.le_refl _ | (simp only [World.size_alloc, World.size_setCell, World.size_drew]; omega) | omega) _ | refine Below.drew ?_))) hn1 (X1_5.rd.below (by repeat (first | exact Below.refl _ _ | assumption | refine Below.alloc ?_ (by first | exact Nat.le_refl _ | (simp only [World.size_alloc, World.size_setCell, World.size_drew]; omega) | omega) _ | refine Below.setCell ?_ (by first | exact Nat.le_refl _ | (simp only [World.size_alloc, World.size_setCell, World.size_drew]; omega) | omega) _ | refine Below.drew ?_)))).mono ?_
  rintro e w6 ⟨pG0, qG0, rfl, ho0, hb⟩
  have ht : Below w5.heap.size w5 w6 := Below.trans (by repeat (first | exact Below.refl _ _ | assumption | refine Below.alloc ?_ (by first | exact Nat.le_refl _ | (simp only [World.size_alloc, World.size_setCell, World.size_drew]; omega) | omega) _ | refine Below.setCell ?_ (by first | exact Nat.le_refl _ | (simp only [World.size_alloc, World.size_setCell, World.size_drew]; omega) | omega) _ | refine Below.drew ?_)) (hb.mono (by first | (simp only [World.size_alloc, World.size_setCell, World.size_drew]; omega) | omega))
  have z6 : w5.heap.size ≤ w6.heap.size := ht.size
  have bw6 : Below w.heap.size w w6 := bw5.trans (ht.mono bw5.size)
  have A0_6 := A0_5.below ht
  have A1_6 := A1_5.below ht
  have BR0_6 := BR0_5.below ht
  have BX0_6 := BX0_5.below ht
  have BX1_6 : Box2 w6 w5.heap.size (.int .i64 n1) (.slice pX1 xs1.length qX1) := (Box2.new w5 _ _ 26).below hb
  have ⟨zA0_6, cA0_6, dA0_6⟩ := A0_6
  have ⟨zA1_6, cA1_6, dA1_6⟩ := A1_6
  have ⟨zBR0_6, cBR0_6, dBR0_6⟩ := BR0_6
  have ⟨zBX0_6, cBX0_6, dBX0_6⟩ := BX0_6
  have ⟨zBX1_6, cBX1_6, dBX1_6⟩ := BX1_6
  have R0_6 := R0_5.below ht (Nat.le_refl _)
  have X0_6 := X0_5.below ht (Nat.le_refl _)
  have X1_6 := X1_5.below ht (Nat.le_refl _)
  clear A0_5 cA0_5 dA0_5 A1_5 cA1_5 dA1_5 BR0_5 cBR0_5 dBR0_5 BX0_5 cBX0_5 dBX0_5 R0_5 X0_5 X1_5
  have G0_6 := ho0
  have UG0 := G0_6.cut (Nat.le_refl _); simp only [World.size_alloc] at UG0
  clear ho0
  clear ht hb
  go_wp2_with fail
  refine (eqOrder_any _ _ _ _ (besL n0 xs0 n1 xs1) (besL n0 xs0 n1 xs1) _ _ _ (G0_6.rd.below (by repeat (first | exact Below.refl _ _ | assumption | refine Below.alloc ?_ (by first | exact Nat.le_refl _ | (simp only [World.size_alloc, World.size_setCell, World.size_drew]; omega) | omega) _ | refine Below.setCell ?_ (by first | exact Nat.le_refl _ | (simp only [World.size_alloc, World.size_setCell, World.size_drew]; omega) | omega) _ | refine Below.drew ?_))) (R0_6.rd.below (by repeat (first | exact Below.refl _ _ | assumption | refine Below.alloc ?_ (by first | exact Nat.le_refl _ | (simp only [World.size_alloc, World.size_setCell, World.size_drew]; omega) | omega) _ | refine Below.setCell ?_ (by first | exact Nat.le_refl _ | (simp only [World.size_alloc, World.size_setCell, World.size_drew]; omega) | omega) _ | refine Below.drew ?_)))).mono ?_
  rw [eqO_refl]
  rintro e w7 ⟨rfl, hb⟩
  have ht : Below w6.heap.size w6 w7 := Below.trans (by repeat (first | exact Below.refl _ _ | assumption | refine Below.alloc ?_ (by first | exact Nat.le_refl _ | (simp only [World.size_alloc, World.size_setCell, World.size_drew]; omega) | omega) _ | refine Below.setCell ?_ (by first | exact Nat.le_refl _ | (simp only [World.size_alloc, World.size_setCell, World.size_drew]; omega) | omega) _ | refine Below.drew ?_)) (hb.mono (by first | (simp only [World.size_alloc, World.size_setCell, World.size_drew]; omega) | omega))
  have z7 : w6.heap.size ≤ w7.heap.size := ht.size
  have bw7 : Below w.heap.size w w7 := bw6.trans (ht.mono bw6.size)
  have A0_7 := A0_6.below ht
  have A1_7 := A1_6.below ht
  have BR0_7 := BR0_6.below ht
  have BX0_7 := BX0_6.below ht
  have BX1_7 := BX1_6.below ht
  have BG0_7 : Box2 w7 w6.heap.size (.int .i64 (besN n0 xs0 n1 xs1)) (.slice pG0 (besL n0 xs0 n1 xs1).length qG0) := (Box2.new w6 _ _ 26).below hb
  have ⟨zA0_7, cA0_7, dA0_7⟩ := A0_7
  have ⟨zA1_7, cA1_7, dA1_7⟩ := A1_7
  have ⟨zBR0_7, cBR0_7, dBR0_7⟩ := BR0_7
  have ⟨zBX0_7, cBX0_7, dBX0_7⟩ := BX0_7
  have ⟨zBX1_7, cBX1_7, dBX1_7⟩ := BX1_7
  have ⟨zBG0_7, cBG0_7, dBG0_7⟩ := BG0_7
  have R0_7 := R0_6.below ht (Nat.le_refl _)
  have X0_7 := X0_6.below ht (Nat.le_refl _)
  have X1_7 := X1_6.below ht (Nat.le_refl _)
  have G0_7 := G0_6.below ht (Nat.le_refl _)
  clear A0_6 cA0_6 dA0_6 A1_6 cA1_6 dA1_6 BR0_6 cBR0_6 dBR0_6 BX0_6 cBX0_6 dBX0_6 BX1_6 cBX1_6 dBX1_6 R0_6 X0_6 X1_6 G0_6
  clear ht hb
  go_wp2_with fail
  go_region_held3 (fun w' => w'.cell? ⟨w.heap.size, 0, none⟩ = some (.int .i64 n0) ∧ w'.cell? ⟨w.heap.size, 1, none⟩ = some (.slice a0 xs0.length cap0) ∧ w'.cell? ⟨w4.heap.size, 0, none⟩ = some (.int .i64 n0) ∧ w'.cell? ⟨w4.heap.size, 1, none⟩ = some (.slice pX0 xs0.length qX0))
    (first | exact ⟨P9.2.1, P9.2.2, Q9.2.1, Q9.2.2⟩ | exact ⟨P8.2.1, P8.2.2, Q8.2.1, Q8.2.2⟩ | go_keep)
    (first | (go_at_call 15; refine (toOrder_any _ _ _ _ _ (hx0.below (bw7.trans (Joins.below_draws _ _ _))) (by omega)).mono ?_; rintro e w8 ⟨a8', cap8', rfl, ho8, hb8⟩; have ht8 : Below w7.heap.size w7 w8 := (Joins.below_draws _ _ _).trans hb8; have P8 := A0_7.below ht8; have Q8 := BX0_7.below ht8) | (go_at_call 17; refine (eqOrder_any _ _ _ _ xs0 xs0 _ _ _ (X0_7.rd.below ht8) ho8.rd).mono ?_; rw [eqO_refl]; rintro e w9 ⟨rfl, hb9⟩; have P9 := P8.below hb9; have Q9 := Q8.below hb9))
  have ht : Below w7.heap.size w7 w9 := ht8.trans (hb9.mono ht8.size)
  have z9 : w7.heap.size ≤ w9.heap.size := ht.size
  have bw9 : Below w.heap.size w w9 := bw7.trans (ht.mono bw7.size)
  clear P8 Q8 P9 Q9 ho8
  have A0_9 := A0_7.below ht
  have A1_9 := A1_7.below ht
  have BR0_9 := BR0_7.below ht
  have BX0_9 := BX0_7.below ht
  have BX1_9 := BX1_7.below ht
  have BG0_9 := BG0_7.below ht
  have ⟨zA0_9, cA0_9, dA0_9⟩ := A0_9
  have ⟨zA1_9, cA1_9, dA1_9⟩ := A1_9
  have ⟨zBR0_9, cBR0_9, dBR0_9⟩ := BR0_9
  have ⟨zBX0_9, cBX0_9, dBX0_9⟩ := BX0_9
  have ⟨zBX1_9, cBX1_9, dBX1_9⟩ := BX1_9
  have ⟨zBG0_9, cBG0_9, dBG0_9⟩ := BG0_9
  have R0_9 := R0_7.below ht (Nat.le_refl _)
  have X0_9 := X0_7.below ht (Nat.le_refl _)
  have X1_9 := X1_7.below ht (Nat.le_refl _)
  have G0_9 := G0_7.below ht (Nat.le_refl _)
  clear A0_7 cA0_7 dA0_7 A1_7 cA1_7 dA1_7 BR0_7 cBR0_7 dBR0_7 BX0_7 cBX0_7 dBX0_7 BX1_7 cBX1_7 dBX1_7 BG0_7 cBG0_7 dBG0_7 R0_7 X0_7 X1_7 G0_7
  clear ht hb9 ht8 hb8
  go_wp2_with fail
  go_region_held3 (fun w' => w'.cell? ⟨(w.heap.size + 1), 0, none⟩ = some (.int .i64 n1) ∧ w'.cell? ⟨(w.heap.size + 1), 1, none⟩ = some (.slice a1 xs1.length cap1) ∧ w'.cell? ⟨w5.heap.size, 0, none⟩ = some (.int .i64 n1) ∧ w'.cell? ⟨w5.heap.size, 1, none⟩ = some (.slice pX1 xs1.length qX1))
    (first | exact ⟨P11.2.1, P11.2.2, Q11.2.1, Q11.2.2⟩ | exact ⟨P10.2.1, P10.2.2, Q10.2.1, Q10.2.2⟩ | go_keep)
    (first | (go_at_call 15; refine (toOrder_any _ _ _ _ _ (hx1.below (bw9.trans (Joins.below_draws _ _ _))) (by omega)).mono ?_; rintro e w10 ⟨a10', cap10', rfl, ho10, hb10⟩; have ht10 : Below w9.heap.size w9 w10 := (Joins.below_draws _ _ _).trans hb10; have P10 := A1_9.below ht10; have Q10 := BX1_9.below ht10) | (go_at_call 17; refine (eqOrder_any _ _ _ _ xs1 xs1 _ _ _ (X1_9.rd.below ht10) ho10.rd).mono ?_; rw [eqO_refl]; rintro e w11 ⟨rfl, hb11⟩; have P11 := P10.below hb11; have Q11 := Q10.below hb11))
  have ht : Below w9.heap.size w9 w11 := ht10.trans (hb11.mono ht10.size)
  have z11 : w9.heap.size ≤ w11.heap.size := ht.size
  have bw11 : Below w.heap.size w w11 := bw9.trans (ht.mono bw9.size)
  clear P10 Q10 P11 Q11 ho10
  have A0_11 := A0_9.below ht
  have A1_11 := A1_9.below ht
  have BR0_11 := BR0_9.below ht
  have BX0_11 := BX0_9.below ht
  have BX1_11 := BX1_9.below ht
  have BG0_11 := BG0_9.below ht
  have ⟨zA0_11, cA0_11, dA0_11⟩ := A0_11
  have ⟨zA1_11, cA1_11, dA1_11⟩ := A1_11
  have ⟨zBR0_11, cBR0_11, dBR0_11⟩ := BR0_11
  have ⟨zBX0_11, cBX0_11, dBX0_11⟩ := BX0_11
  have ⟨zBX1_11, cBX1_11, dBX1_11⟩ := BX1_11
  have ⟨zBG0_11, cBG0_11, dBG0_11⟩ := BG0_11
  have R0_11 := R0_9.below ht (Nat.le_refl _)
  have X0_11 := X0_9.below ht (Nat.le_refl _)
  have X1_11 := X1_9.below ht (Nat.le_refl _)
  have G0_11 := G0_9.below ht (Nat.le_refl _)
  clear A0_9 cA0_9 dA0_9 A1_9 cA1_9 dA1_9 BR0_9 cBR0_9 dBR0_9 BX0_9 cBX0_9 dBX0_9 BX1_9 cBX1_9 dBX1_9 BG0_9 cBG0_9 dBG0_9 R0_9 X0_9 X1_9 G0_9
  clear ht hb11 ht10 hb10
  go_wp2_with fail
  refine (markOrder_any _ _ _ _ _ _ _ (by omega) (by omega) (by omega) X0_11).mono ?_
  rintro e w12 ⟨rfl, ho, hg⟩
  have z12 : w11.heap.size ≤ w12.heap.size := hg.size
  have bw12 : Below w.heap.size w w12 := bw11.trans (below_of_grown hg (fun b e => by have := UX0 b e; omega) (by omega))
  have A0_12 := A0_11.kept hg (ne_own (fun c e => by have := UX0 c e; omega))
  have ⟨zA0_12, cA0_12, dA0_12⟩ := A0_12
  have A1_12 := A1_11.kept hg (ne_own (fun c e => by have := UX0 c e; omega))
  have ⟨zA1_12, cA1_12, dA1_12⟩ := A1_12
  have BR0_12 := BR0_11.kept hg (ne_own (fun c e => by have := UX0 c e; omega))
  have ⟨zBR0_12, cBR0_12, dBR0_12⟩ := BR0_12
  have BX0_12 := BX0_11.kept hg (ne_own (fun c e => by have := UX0 c e; omega))
  have ⟨zBX0_12, cBX0_12, dBX0_12⟩ := BX0_12
  have BX1_12 := BX1_11.kept hg (ne_own (fun c e => by have := UX0 c e; omega))
  have ⟨zBX1_12, cBX1_12, dBX1_12⟩ := BX1_12
  have BG0_12 := BG0_11.kept hg (ne_own (fun c e => by have := UX0 c e; omega))
  have ⟨zBG0_12, cBG0_12, dBG0_12⟩ := BG0_12
  have R0_12 := R0_11.kept hg (own_ne (fun c e e2 => by have h1 := UR0 c e; have h2 := UX0 c e2; omega))
  have X1_12 := X1_11.kept hg (own_ne (fun c e e2 => by have h1 := UX1 c e; have h2 := UX0 c e2; omega))
  have G0_12 := G0_11.kept hg (own_ne (fun c e e2 => by have h1 := UG0 c e; have h2 := UX0 c e2; omega))
  clear A0_11 cA0_11 dA0_11 A1_11 cA1_11 dA1_11 BR0_11 cBR0_11 dBR0_11 BX0_11 cBX0_11 dBX0_11 BX1_11 cBX1_11 dBX1_11 BG0_11 cBG0_11 dBG0_11 R0_11 X0_11 X1_11 G0_11 hg
  have X0_12 := ho
  clear ho
  go_wp2_with fail
  refine (markOrder_any _ _ _ _ _ _ _ (by omega) (by omega) (by omega) X1_12).mono ?_
  rintro e w13 ⟨rfl, ho, hg⟩
  have z13 : w12.heap.size ≤ w13.heap.size := hg.size
  have bw13 : Below w.heap.size w w13 := bw12.trans (below_of_grown hg (fun b e => by have := UX1 b e; omega) (by omega))
  have A0_13 := A0_12.kept hg (ne_own (fun c e => by have := UX1 c e; omega))
  have ⟨zA0_13, cA0_13, dA0_13⟩ := A0_13
  have A1_13 := A1_12.kept hg (ne_own (fun c e => by have := UX1 c e; omega))
  have ⟨zA1_13, cA1_13, dA1_13⟩ := A1_13
  have BR0_13 := BR0_12.kept hg (ne_own (fun c e => by have := UX1 c e; omega))
  have ⟨zBR0_13, cBR0_13, dBR0_13⟩ := BR0_13
  have BX0_13 := BX0_12.kept hg (ne_own (fun c e => by have := UX1 c e; omega))
  have ⟨zBX0_13, cBX0_13, dBX0_13⟩ := BX0_13
  have BX1_13 := BX1_12.kept hg (ne_own (fun c e => by have := UX1 c e; omega))
  have ⟨zBX1_13, cBX1_13, dBX1_13⟩ := BX1_13
  have BG0_13 := BG0_12.kept hg (ne_own (fun c e => by have := UX1 c e; omega))
  have ⟨zBG0_13, cBG0_13, dBG0_13⟩ := BG0_13
  have R0_13 := R0_12.kept hg (own_ne (fun c e e2 => by have h1 := UR0 c e; have h2 := UX1 c e2; omega))
  have X0_13 := X0_12.kept hg (own_ne (fun c e e2 => by have h1 := UX0 c e; have h2 := UX1 c e2; omega))
  have G0_13 := G0_12.kept hg (own_ne (fun c e e2 => by have h1 := UG0 c e; have h2 := UX1 c e2; omega))
  clear A0_12 cA0_12 dA0_12 A1_12 cA1_12 dA1_12 BR0_12 cBR0_12 dBR0_12 BX0_12 cBX0_12 dBX0_12 BX1_12 cBX1_12 dBX1_12 BG0_12 cBG0_12 dBG0_12 R0_12 X0_12 X1_12 G0_12 hg
  have X1_13 := ho
  clear ho
  go_wp2_with fail
  refine (eqOrder_any _ _ _ _ (besL n0 xs0 n1 xs1) (besL n0 xs0 n1 xs1) _ _ _ (G0_13.rd) (R0_13.rd)).mono ?_
  rw [eqO_refl]
  rintro e w14 ⟨rfl, hb⟩
  have ht : Below w13.heap.size w13 w14 := hb
  have z14 : w13.heap.size ≤ w14.heap.size := ht.size
  have bw14 : Below w.heap.size w w14 := bw13.trans (ht.mono bw13.size)
  have A0_14 := A0_13.below ht
  have A1_14 := A1_13.below ht
  have BR0_14 := BR0_13.below ht
  have BX0_14 := BX0_13.below ht
  have BX1_14 := BX1_13.below ht
  have BG0_14 := BG0_13.below ht
  have ⟨zA0_14, cA0_14, dA0_14⟩ := A0_14
  have ⟨zA1_14, cA1_14, dA1_14⟩ := A1_14
  have ⟨zBR0_14, cBR0_14, dBR0_14⟩ := BR0_14
  have ⟨zBX0_14, cBX0_14, dBX0_14⟩ := BX0_14
  have ⟨zBX1_14, cBX1_14, dBX1_14⟩ := BX1_14
  have ⟨zBG0_14, cBG0_14, dBG0_14⟩ := BG0_14
  have R0_14 := R0_13.below ht (Nat.le_refl _)
  have X0_14 := X0_13.below ht (Nat.le_refl _)
  have X1_14 := X1_13.below ht (Nat.le_refl _)
  have G0_14 := G0_13.below ht (Nat.le_refl _)
  clear A0_13 cA0_13 dA0_13 A1_13 cA1_13 dA1_13 BR0_13 cBR0_13 dBR0_13 BX0_13 cBX0_13 dBX0_13 BX1_13 cBX1_13 dBX1_13 BG0_13 cBG0_13 dBG0_13 R0_13 X0_13 X1_13 G0_13
  clear ht hb
  go_wp2_with fail
  refine (markOrder_any _ _ _ _ _ _ _ (by omega) (by omega) hR0 G0_14).mono ?_
  rintro e w15 ⟨rfl, ho, hg⟩
  have z15 : w14.heap.size ≤ w15.heap.size := hg.size
  have bw15 : Below w.heap.size w w15 := bw14.trans (below_of_grown hg (fun b e => by have := UG0 b e; omega) (by omega))
  have A0_15 := A0_14.kept hg (ne_own (fun c e => by have := UG0 c e; omega))
  have ⟨zA0_15, cA0_15, dA0_15⟩ := A0_15
  have A1_15 := A1_14.kept hg (ne_own (fun c e => by have := UG0 c e; omega))
  have ⟨zA1_15, cA1_15, dA1_15⟩ := A1_15
  have BR0_15 := BR0_14.kept hg (ne_own (fun c e => by have := UG0 c e; omega))
  have ⟨zBR0_15, cBR0_15, dBR0_15⟩ := BR0_15
  have BX0_15 := BX0_14.kept hg (ne_own (fun c e => by have := UG0 c e; omega))
  have ⟨zBX0_15, cBX0_15, dBX0_15⟩ := BX0_15
  have BX1_15 := BX1_14.kept hg (ne_own (fun c e => by have := UG0 c e; omega))
  have ⟨zBX1_15, cBX1_15, dBX1_15⟩ := BX1_15
  have BG0_15 := BG0_14.kept hg (ne_own (fun c e => by have := UG0 c e; omega))
  have ⟨zBG0_15, cBG0_15, dBG0_15⟩ := BG0_15
  have R0_15 := R0_14.kept hg (own_ne (fun c e e2 => by have h1 := UR0 c e; have h2 := UG0 c e2; omega))
  have X0_15 := X0_14.kept hg (own_ne (fun c e e2 => by have h1 := UX0 c e; have h2 := UG0 c e2; omega))
  have X1_15 := X1_14.kept hg (own_ne (fun c e e2 => by have h1 := UX1 c e; have h2 := UG0 c e2; omega))
  clear A0_14 cA0_14 dA0_14 A1_14 cA1_14 dA1_14 BR0_14 cBR0_14 dBR0_14 BX0_14 cBX0_14 dBX0_14 BX1_14 cBX1_14 dBX1_14 BG0_14 cBG0_14 dBG0_14 R0_14 X0_14 X1_14 G0_14 hg
  have G0_15 := ho
  clear ho
  go_wp2_with fail
  refine (heldOrder_any _ _ _ _ _ _ (by omega) (by omega) hR0 G0_15.rd).mono ?_
  rintro e w16 ⟨rfl, hb⟩
  have ht : Below w15.heap.size w15 w16 := hb
  have z16 : w15.heap.size ≤ w16.heap.size := ht.size
  have bw16 : Below w.heap.size w w16 := bw15.trans (ht.mono bw15.size)
  have A0_16 := A0_15.below ht
  have A1_16 := A1_15.below ht
  have BR0_16 := BR0_15.below ht
  have BX0_16 := BX0_15.below ht
  have BX1_16 := BX1_15.below ht
  have BG0_16 := BG0_15.below ht
  have ⟨zA0_16, cA0_16, dA0_16⟩ := A0_16
  have ⟨zA1_16, cA1_16, dA1_16⟩ := A1_16
  have ⟨zBR0_16, cBR0_16, dBR0_16⟩ := BR0_16
  have ⟨zBX0_16, cBX0_16, dBX0_16⟩ := BX0_16
  have ⟨zBX1_16, cBX1_16, dBX1_16⟩ := BX1_16
  have ⟨zBG0_16, cBG0_16, dBG0_16⟩ := BG0_16
  have R0_16 := R0_15.below ht (Nat.le_refl _)
  have X0_16 := X0_15.below ht (Nat.le_refl _)
  have X1_16 := X1_15.below ht (Nat.le_refl _)
  have G0_16 := G0_15.below ht (Nat.le_refl _)
  clear A0_15 cA0_15 dA0_15 A1_15 cA1_15 dA1_15 BR0_15 cBR0_15 dBR0_15 BX0_15 cBX0_15 dBX0_15 BX1_15 cBX1_15 dBX1_15 BG0_15 cBG0_15 dBG0_15 R0_15 X0_15 X1_15 G0_15
  clear ht hb
  go_wp2_with fail
  clear X0_16 UX0
  clear X1_16 UX1
  go_cut [15, 16] (fun s6 s7 wx => ∃ (b6 : Nat) (a2 : Option Addr) (cap2 : Nat), s6 = .pointer (some ⟨b6, 0, none⟩) ∧ s7 = .bool (togOk n0 xs0 n1 xs1) ∧ Box2 wx b6 (.int .i64 (besN n0 xs0 n1 xs1)) (.slice a2 (besL n0 xs0 n1 xs1).length cap2) ∧ OwnI wx w16.heap.size (.slice a2 (besL n0 xs0 n1 xs1).length cap2) (besL n0 xs0 n1 xs1) ∧ (∀ b, (Value.slice a2 (besL n0 xs0 n1 xs1).length cap2).ownBlock = some b → b ≠ b6) ∧ w16.heap.size ≤ b6 ∧ Below w16.heap.size w16 wx)
  case first =>
    go_region_held3 (fun w' => w'.cell? ⟨w.heap.size, 0, none⟩ = some (.int .i64 n0) ∧ w'.cell? ⟨w.heap.size, 1, none⟩ = some (.slice a0 xs0.length cap0) ∧ w'.cell? ⟨(w.heap.size + 1), 0, none⟩ = some (.int .i64 n1) ∧ w'.cell? ⟨(w.heap.size + 1), 1, none⟩ = some (.slice a1 xs1.length cap1))
      (first | exact cells2 QA0d QA1d (by first | exact Below.refl _ _ | exact (Below.refl _ _).alloc (Nat.le_refl _) _ | exact (Below.refl _ _).drew | exact ((Below.refl _ _).alloc (Nat.le_refl _) _).drew) | exact cells2 QA0b QA1b (by first | exact Below.refl _ _ | exact (Below.refl _ _).alloc (Nat.le_refl _) _ | exact (Below.refl _ _).drew | exact ((Below.refl _ _).alloc (Nat.le_refl _) _).drew) | exact cells2 QA0a QA1a (by first | exact Below.refl _ _ | exact (Below.refl _ _).alloc (Nat.le_refl _) _ | exact (Below.refl _ _).drew | exact ((Below.refl _ _).alloc (Nat.le_refl _) _).drew) | exact cells2 A0_16 A1_16 (by first | exact Below.refl _ _ | exact (Below.refl _ _).alloc (Nat.le_refl _) _ | exact (Below.refl _ _).drew | exact ((Below.refl _ _).alloc (Nat.le_refl _) _).drew) | exact cells2set QA0d QA1d (by have := hta.size; have := htb.size; omega) (by have := hta.size; have := htb.size; omega) | go_keep)
      (first | (go_at_call 21; refine (iBeside_any _ _ _ _ _ _ _ _ _ hn0 (rT.below (by first | exact Below.refl _ _ | exact (Below.refl _ _).alloc (Nat.le_refl _) _ | exact (Below.refl _ _).drew | exact ((Below.refl _ _).alloc (Nat.le_refl _) _).drew)) hn1 (oS.rd.below (by first | exact Below.refl _ _ | exact (Below.refl _ _).alloc (Nat.le_refl _) _ | exact (Below.refl _ _).drew | exact ((Below.refl _ _).alloc (Nat.le_refl _) _).drew))).mono ?_; rintro e wd ⟨pR, qR, rfl, ho, hbd⟩; have htd : Below wb.heap.size wb wd := (by first | exact hbd | exact Below.trans (Below.refl _ wb).drew (hbd.mono (Nat.le_refl _)) | exact Below.trans ((Below.refl _ wb).alloc (Nat.le_refl _) (.cells #[.int .i64 0, .slice none 0 0] 26)) (hbd.mono (by simp)) | exact Below.trans (((Below.refl _ wb).alloc (Nat.le_refl _) (.cells #[.int .i64 0, .slice none 0 0] 26)).drew) (hbd.mono (by simp))); have htx := hta.trans ((htb.trans (htd.mono htb.size)).mono hta.size); have QA0d := QA0b.below htd; have QA1d := QA1b.below htd; (try have Vd : Var2 wd wb.heap.size (.int .i64 0) (.slice none 0 0) := (by first | exact Var2.below (w := (wb.alloc (.cells #[.int .i64 0, .slice none 0 0] 26)).drew) (Var2.new wb _ _ _) hbd | exact Var2.below (w := wb.alloc (.cells #[.int .i64 0, .slice none 0 0] 26)) (Var2.new wb _ _ _) hbd)); (try have Vd := Vb.below htd); (try have ⟨⟨zV, cV, dV⟩, fV, gV⟩ := Vd)) | (have _g := bwa; go_at_call 15; refine (toOrder_any _ _ _ _ _ (hx1.below (by first | exact bwa.drew | exact (bwa.alloc bwa.size (.cells #[.int .i64 0, .slice none 0 0] 26)).drew | exact bwa | exact bwa.alloc bwa.size (.cells #[.int .i64 0, .slice none 0 0] 26))) (by omega)).mono ?_; rintro e wb ⟨pS, qS, rfl, oS, hbb⟩; have htb : Below wa.heap.size wa wb := (by first | exact hbb | exact Below.trans (Below.refl _ wa).drew (hbb.mono (Nat.le_refl _)) | exact Below.trans ((Below.refl _ wa).alloc (Nat.le_refl _) (.cells #[.int .i64 0, .slice none 0 0] 26)) (hbb.mono (by simp)) | exact Below.trans (((Below.refl _ wa).alloc (Nat.le_refl _) (.cells #[.int .i64 0, .slice none 0 0] 26)).drew) (hbb.mono (by simp))); have bwb := bwa.trans (htb.mono bwa.size); have rT := oT.rd.below htb; have QA0b := QA0a.below htb; have QA1b := QA1a.below htb; (try have Vb : Var2 wb wa.heap.size (.int .i64 0) (.slice none 0 0) := (by first | exact Var2.below (w := (wa.alloc (.cells #[.int .i64 0, .slice none 0 0] 26)).drew) (Var2.new wa _ _ _) hbb | exact Var2.below (w := wa.alloc (.cells #[.int .i64 0, .slice none 0 0] 26)) (Var2.new wa _ _ _) hbb)); (try have Vb := Va.below htb)) | (go_at_call 15; refine (toOrder_any _ _ _ _ _ (hx0.below (by first | exact bw16.drew | exact (bw16.alloc bw16.size (.cells #[.int .i64 0, .slice none 0 0] 26)).drew | exact bw16 | exact bw16.alloc bw16.size (.cells #[.int .i64 0, .slice none 0 0] 26))) (by omega)).mono ?_; rintro e wa ⟨pT, qT, rfl, oT, hba⟩; have hta : Below w16.heap.size w16 wa := (by first | exact hba | exact Below.trans (Below.refl _ w16).drew (hba.mono (Nat.le_refl _)) | exact Below.trans ((Below.refl _ w16).alloc (Nat.le_refl _) (.cells #[.int .i64 0, .slice none 0 0] 26)) (hba.mono (by simp)) | exact Below.trans (((Below.refl _ w16).alloc (Nat.le_refl _) (.cells #[.int .i64 0, .slice none 0 0] 26)).drew) (hba.mono (by simp))); have bwa := bw16.trans (hta.mono bw16.size); have QA0a := A0_16.below hta; have QA1a := A1_16.below hta; (try have Va : Var2 wa w16.heap.size (.int .i64 0) (.slice none 0 0) := (by first | exact Var2.below (w := (w16.alloc (.cells #[.int .i64 0, .slice none 0 0] 26)).drew) (Var2.new w16 _ _ _) hba | exact Var2.below (w := w16.alloc (.cells #[.int .i64 0, .slice none 0 0] 26)) (Var2.new w16 _ _ _) hba))))
    all_goals
      go_wp2_with fail
      go_meet
      first
        | exact ⟨_, _, _, rfl, rfl, endA ho htx (by have := hta.size; have := htb.size; simp; omega)⟩
        | exact ⟨_, _, _, rfl, rfl, endO Vd ho (by have h1 := hta.size; have h2 := htb.size; (try have h3 := Va.1.1); (try have h4 := Vb.1.1); simp; try omega) (by have h1 := hta.size; have h2 := htb.size; omega) htx⟩
  case rest =>
  obtain ⟨w17, hwc⟩ : ∃ x : World, x = wc := ⟨_, rfl⟩
  subst hwc
  obtain ⟨b6H, pH0, qH0, rfl, rfl, BH0_17, ho0, UUH, hlH, ht⟩ := hcut
  have z17 : w16.heap.size ≤ w17.heap.size := ht.size
  have bw17 : Below w.heap.size w w17 := bw16.trans (ht.mono bw16.size)
  have hkH : b6H < w17.heap.size := BH0_17.1
  have A0_17 := A0_16.below ht
  have A1_17 := A1_16.below ht
  have BR0_17 := BR0_16.below ht
  have BX0_17 := BX0_16.below ht
  have BX1_17 := BX1_16.below ht
  have BG0_17 := BG0_16.below ht
  have ⟨zA0_17, cA0_17, dA0_17⟩ := A0_17
  have ⟨zA1_17, cA1_17, dA1_17⟩ := A1_17
  have ⟨zBR0_17, cBR0_17, dBR0_17⟩ := BR0_17
  have ⟨zBX0_17, cBX0_17, dBX0_17⟩ := BX0_17
  have ⟨zBX1_17, cBX1_17, dBX1_17⟩ := BX1_17
  have ⟨zBG0_17, cBG0_17, dBG0_17⟩ := BG0_17
  have R0_17 := R0_16.below ht (Nat.le_refl _)
  have G0_17 := G0_16.below ht (Nat.le_refl _)
  clear A0_16 cA0_16 dA0_16 A1_16 cA1_16 dA1_16 BR0_16 cBR0_16 dBR0_16 BX0_16 cBX0_16 dBX0_16 BX1_16 cBX1_16 dBX1_16 BG0_16 cBG0_16 dBG0_16 R0_16 G0_16
  have H0_17 := ho0
  have UH0 := H0_17.cut (Nat.le_refl _)
  clear ho0
  have ⟨zBH0_17, cBH0_17, dBH0_17⟩ := BH0_17
  clear ht
  go_wp2_with fail
  refine (eqOrder_any _ _ _ _ (besL n0 xs0 n1 xs1) (besL n0 xs0 n1 xs1) _ _ _ (H0_17.rd) (R0_17.rd)).mono ?_
  rw [eqO_refl]
  rintro e w18 ⟨rfl, hb⟩
  have ht : Below w17.heap.size w17 w18 := hb
  have z18 : w17.heap.size ≤ w18.heap.size := ht.size
  have bw18 : Below w.heap.size w w18 := bw17.trans (ht.mono bw17.size)
  have A0_18 := A0_17.below ht
  have A1_18 := A1_17.below ht
  have BR0_18 := BR0_17.below ht
  have BX0_18 := BX0_17.below ht
  have BX1_18 := BX1_17.below ht
  have BG0_18 := BG0_17.below ht
  have BH0_18 := BH0_17.below ht
  have ⟨zA0_18, cA0_18, dA0_18⟩ := A0_18
  have ⟨zA1_18, cA1_18, dA1_18⟩ := A1_18
  have ⟨zBR0_18, cBR0_18, dBR0_18⟩ := BR0_18
  have ⟨zBX0_18, cBX0_18, dBX0_18⟩ := BX0_18
  have ⟨zBX1_18, cBX1_18, dBX1_18⟩ := BX1_18
  have ⟨zBG0_18, cBG0_18, dBG0_18⟩ := BG0_18
  have ⟨zBH0_18, cBH0_18, dBH0_18⟩ := BH0_18
  have R0_18 := R0_17.below ht (Nat.le_refl _)
  have G0_18 := G0_17.below ht (Nat.le_refl _)
  have H0_18 := H0_17.below ht (Nat.le_refl _)
  clear A0_17 cA0_17 dA0_17 A1_17 cA1_17 dA1_17 BR0_17 cBR0_17 dBR0_17 BX0_17 cBX0_17 dBX0_17 BX1_17 cBX1_17 dBX1_17 BG0_17 cBG0_17 dBG0_17 BH0_17 cBH0_17 dBH0_17 R0_17 G0_17 H0_17
  clear ht hb
  go_wp2_with fail
  refine (heldOrder_any _ _ _ _ _ _ (by omega) (by omega) hR0 G0_18.rd).mono ?_
  rintro e w19 ⟨rfl, hb⟩
  have ht : Below w18.heap.size w18 w19 := hb
  have z19 : w18.heap.size ≤ w19.heap.size := ht.size
  have bw19 : Below w.heap.size w w19 := bw18.trans (ht.mono bw18.size)
  have A0_19 := A0_18.below ht
  have A1_19 := A1_18.below ht
  have BR0_19 := BR0_18.below ht
  have BX0_19 := BX0_18.below ht
  have BX1_19 := BX1_18.below ht
  have BG0_19 := BG0_18.below ht
  have BH0_19 := BH0_18.below ht
  have ⟨zA0_19, cA0_19, dA0_19⟩ := A0_19
  have ⟨zA1_19, cA1_19, dA1_19⟩ := A1_19
  have ⟨zBR0_19, cBR0_19, dBR0_19⟩ := BR0_19
  have ⟨zBX0_19, cBX0_19, dBX0_19⟩ := BX0_19
  have ⟨zBX1_19, cBX1_19, dBX1_19⟩ := BX1_19
  have ⟨zBG0_19, cBG0_19, dBG0_19⟩ := BG0_19
  have ⟨zBH0_19, cBH0_19, dBH0_19⟩ := BH0_19
  have R0_19 := R0_18.below ht (Nat.le_refl _)
  have G0_19 := G0_18.below ht (Nat.le_refl _)
  have H0_19 := H0_18.below ht (Nat.le_refl _)
  clear A0_18 cA0_18 dA0_18 A1_18 cA1_18 dA1_18 BR0_18 cBR0_18 dBR0_18 BX0_18 cBX0_18 dBX0_18 BX1_18 cBX1_18 dBX1_18 BG0_18 cBG0_18 dBG0_18 BH0_18 cBH0_18 dBH0_18 R0_18 G0_18 H0_18
  clear ht hb
  go_wp2_with fail
  go_ret
  exact ⟨rfl, bw19⟩

theorem rd_of_trod {H : Type} {enc : TypeId × Value → H} {W : World} {fuel : Nat} {c : Value} {y : DataW H × List MemPlace}
    (h : DataW.trod enc Try.prog W 0 (fun _ => true) true fuel 22 [c] = some y) : ∃ (a : Option Addr) (xs : List Int) (cap : Nat), c = .slice a xs.length cap ∧ Rd W a xs ∧ ∀ k, k < xs.length → (Lit.int .i64 (nth xs k)).wf = true := by
  rcases Go.ChangeShapes.open_ints Try.underlying22 Try.underlying3 (by kernel_rfl) h with ⟨hcs, _⟩ | ⟨x, len, cap, zs, hcs, _, hl, hm, hz, _, hcell, hwf⟩
  · simp only [List.cons.injEq, and_true] at hcs
    exact ⟨none, [], 0, hcs, ⟨by simp, fun k hk => by simp at hk⟩, fun k hk => by simp at hk⟩
  · simp only [List.cons.injEq, and_true] at hcs
    simp only [if_true] at hz
    have hlen : (zs.take len).length = len := by rw [List.length_take]; omega
    have hn : ∀ k, k < len → nth (zs.take len) k = zs.getD k 0 := by
      intro k hk
      simp only [nth, List.getD_eq_getElem?_getD, List.getElem?_take, hk, if_true]
    refine ⟨some x, zs.take len, cap, by rw [hlen]; exact hcs, ⟨by rw [hlen]; unfold maxLen at hm; omega, fun k hk => ?_⟩, fun k hk => ?_⟩
    · rw [hlen] at hk
      obtain ⟨b, off, sp⟩ := x
      have h0 := hcell 0 (by omega)
      have hsp : sp = none := by simpa [Addr.add] using World.cell?_spot h0
      subst hsp
      have hk' := hcell k (by omega)
      rw [Addr.add_lit] at hk'
      exact ⟨b, off, rfl, World.block_lt_of_cell? _ _ h0, by rw [hk', hn k hk]⟩
    · rw [hlen] at hk
      rw [hn k hk]
      have hk2 : k < zs.length := by omega
      exact hwf _ (by rw [List.getD_eq_getElem?_getD, List.getElem?_eq_getElem hk2]; exact List.getElem_mem hk2)

theorem own : ownKnob Try.prog.godebug = none := by kernel_rfl
theorem laidOut : laidOutB Try.prog = true := by kernel_rfl
theorem wf_bd {n : Int} (h : (Lit.int .i64 n).wf = true) : -9223372036854775808 ≤ n ∧ n ≤ 9223372036854775807 := by
  simp [Lit.wf, IntKind.min, IntKind.max, IntKind.bits, IntKind.signed] at h
  omega

theorem cellsO : Try.prog.cellsOf 24 = 2 := by kernel_rfl

open Go.ChangeShapes Go.WideShapes Go.ChangeAt Go.RowKit in
set_option maxRecDepth 100000 in
theorem lifted (os : Os) (started : os.Started) (H : Type) (enc : TypeId × Value → H) :
    ReturnsInHanded {} Try.checked os 4 .any (Rows.fnExactBesideOrdersSpec.pre6 enc Try.prog Try.f4 Rows.fnExactBesideOrdersRow.domain false) (Rows.fnExactBesideOrdersSpec.post enc Try.prog Try.f4 false true false false) := by
  refine returnsInHanded_of_change (C := Try.checked) own started (by kernel_rfl) Try.func4
    (ChangeSpec.witness6 (enc := enc) (C := Try.checked) false ⟨#[], #[.agg #[.int .i64 0, .slice none 0 0], .agg #[.int .i64 0, .slice none 0 0]], []⟩ 8 (by kernel_rfl) (by kernel_rfl) (by kernel_rfl) (by kernel_rfl)) ?_
  intro W base args ds gs before hval0 hW hcnd _
  have hval : ∀ (j : Nat) t v, Try.f4.params[j]? = some t → args[j]? = some v → Value.okWide Try.prog W .any base t v := hval0
  have hW' := hW
  obtain ⟨p, q, hA0, hV, rfl, hfz, hnd⟩ := hW
  have hA : DataW.TrodAll enc Try.prog W 0 (fun _ => true) true Try.f4.params.toList args.toList ds p := hA0
  rw [Try.params4] at hA hval
  obtain ⟨v0, vs0, d0, ds0, p0, q0, hargs, rfl, rfl, h0, r0⟩ := trodAll_cons hA
  obtain ⟨v1, vs1, d1, ds1, p1, q1, rfl, rfl, rfl, h1, r1⟩ := trodAll_cons r0
  obtain ⟨rfl, rfl, rfl⟩ := trodAll_nil r1
  obtain rfl : args = #[v0, v1] := by cases args; simp_all
  obtain ⟨rfl, rfl⟩ := trodVars_none hV
  have lt0 : ∀ x ∈ p0, x.block < W.heap.size := by obtain ⟨m, hm⟩ := h0; exact DataW.trod_lt m _ _ _ hm
  have lt1 : ∀ x ∈ p1, x.block < W.heap.size := by obtain ⟨m, hm⟩ := h1; exact DataW.trod_lt m _ _ _ hm
  obtain ⟨c00, c01, y00, y01, m0, rfl, hd0, hp0, hy00, hy01⟩ := Go.Joins.open_agg2 Try.underlying24 (by kernel_rfl) cellsO (hval 0 24 v0 rfl rfl) h0
  obtain ⟨n0, e00, _, wf0⟩ := DataW.trod_int Try.underlying3 hy00
  simp only [List.cons.injEq, and_true] at e00
  subst e00
  obtain ⟨a0, xs0, cap0, rfl, rd0, wl0⟩ := rd_of_trod hy01
  obtain ⟨c10, c11, y10, y11, m1, rfl, hd1, hp1, hy10, hy11⟩ := Go.Joins.open_agg2 Try.underlying24 (by kernel_rfl) cellsO (hval 1 24 v1 rfl rfl) h1
  obtain ⟨n1, e10, _, wf1⟩ := DataW.trod_int Try.underlying3 hy10
  simp only [List.cons.injEq, and_true] at e10
  subst e10
  obtain ⟨a1, xs1, cap1, rfl, rd1, wl1⟩ := rd_of_trod hy11
  clear hA0 hval0
  refine (walk n0 a0 xs0 cap0 n1 a1 xs1 cap1 W (wf_bd wf0) rd0 (wf_bd wf1) rd1).mono fun e W' ⟨he, bel⟩ => ?_
  subst he
  exact ⟨_, rfl, _, _, _, [], _, [], hW', trodAll_mk1 (shut_bool Try.underlying4 _), (trodAll_cons_mk (Below.trod laidOut (by kernel_rfl) (of_decide_eq_true (by kernel_rfl)) h0 bel lt0) (trodAll_cons_mk (Below.trod laidOut (by kernel_rfl) (of_decide_eq_true (by kernel_rfl)) h1 bel lt1) trodAll_mk0)), rfl, bel.frame _, fun h => by cases h⟩
theorem proved : Rows.FnExactBesideOrdersSaid :=
  OpenClaim.holds_of_wide 4 Try.f4 rfl rfl rfl rfl rfl rfl rfl ⟨rfl, rfl, rfl, rfl, rfl⟩ rfl rfl rfl rfl rfl (by kernel_rfl) Try.func4 (by kernel_rfl)
    (of_decide_eq_true (by kernel_rfl)) (by unfold Func.isWrapper; first | (rw [if_pos (by decide +kernel)]; kernel_rfl) | (rw [if_neg (by decide +kernel)]; exact ⟨rfl, rfl⟩))
    (fun os started H enc _ => lifted os started H enc)

end Go.Proofs.Ytphemaojcjcfpaa.besideOrders
