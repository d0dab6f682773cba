/- PROVED: the law FnExactShrinkFails returns true for every input, and each of its arguments reads afterwards as before. No conditions. -/
import Derived.Test.YtpdnlcgclopjmaaRows
import Derived.WalkKit
import Derived.WalkSpells
import Derived.WalkLawsBesides
import Derived.Deep.QuietTactic
import Derived.BigQuiet
import Derived.ProofKit
import Derived.OpenShut
import Derived.ShutString
import Derived.ChangeOld
import Derived.Below
import Derived.Lib.SmallJoins
import Derived.Lib.Hide
import Derived.Handy
import Derived.Stop.Asserts
import Derived.Deep.RegionHeld3
namespace Go.Proofs.Ytpdnlcgclopjmaa.shrinkFails
open Go Go.RowKit
set_option linter.unusedVariables false
set_option linter.unusedSimpArgs false
set_option maxHeartbeats 400000


/-- a number of a list; a plain function, which the walk leaves alone -/
def nth (xs : List Int) (k : Nat) : Int := xs.getD k 0
theorem nth_get (xs : List Int) (k : Nat) (h : k < xs.length) : nth xs k = xs[k] := by simp [nth, h]
/-- the slice at an address reads as a list -/
structure Rd (w : World) (a : Option Addr) (xs : List Int) : Prop where
  len : xs.length ≤ 9223372036854775807
  cell : ∀ k, k < xs.length → ∃ b off, a = some ⟨b, off, none⟩ ∧ b < w.heap.size ∧ w.cell? ⟨b, off + k, none⟩ = some (.int .i64 (nth xs k))
theorem Rd.below {w w' : World} {a : Option Addr} {xs : List Int} (h : Rd w a xs) (hb : Below w.heap.size w w') : Rd w' a xs :=
  ⟨h.len, fun k hk => by
    obtain ⟨b, off, e, hl, hc⟩ := h.cell k hk
    exact ⟨b, off, e, Nat.lt_of_lt_of_le hl hb.size, (hb.cell (World.block_lt_of_cell? _ _ hc)).trans hc⟩⟩
theorem Rd.mid {w w1 w2 : World} {a : Option Addr} {xs : List Int} {B : Nat} (h : Rd w a xs) (hb : Below B w1 w2) (hB : w.heap.size ≤ B) (h1 : Rd w1 a xs) : Rd w2 a xs :=
  ⟨h.len, fun k hk => by
    obtain ⟨b, off, e, hl, hc⟩ := h.cell k hk
    obtain ⟨b', off', e', hl', hc'⟩ := h1.cell k hk
    rw [e] at e'
    simp only [Option.some.injEq, Addr.mk.injEq, and_true] at e'
    obtain ⟨rfl, rfl⟩ := e'
    exact ⟨b, off, e, Nat.lt_of_lt_of_le hl' hb.size, (hb.cell (by show b < B; omega)).trans hc'⟩⟩
theorem Rd.alloc {w : World} {a : Option Addr} {xs : List Int} (h : Rd w a xs) (o : Obj) : Rd (w.alloc o) a xs :=
  h.below ((Below.refl _ _).alloc (Nat.le_refl _) o)
theorem Rd.same {w w' : World} {a : Option Addr} {xs : List Int} (h : Rd w a xs) (hs : w.heap.size ≤ w'.heap.size)
    (hb : ∀ b off, a = some ⟨b, off, none⟩ → w'.heap[b]? = w.heap[b]?) : Rd w' a xs :=
  ⟨h.len, fun k hk => by
    obtain ⟨b, off, e, hl, hc⟩ := h.cell k hk
    exact ⟨b, off, e, Nat.lt_of_lt_of_le hl hs, (World.cell?_of_block (w := w) (a := ⟨b, off + k, none⟩) (hb b off e)).trans hc⟩⟩
/-- a slice value that owns the row of these integers, in a block from B on -/
def OwnI (w : World) (B : Nat) (v : Value) (xs : List Int) : Prop := w.ownsRow B 3 1 v xs.length (xs.map (Value.int .i64))
theorem OwnI.form {w : World} {B : Nat} {v : Value} {xs : List Int} (h : OwnI w B v xs) : ∃ a cap, v = .slice a xs.length cap := by
  rcases h.2 with ⟨rfl, h0⟩ | ⟨g, cap, cur, rfl, _⟩
  · exact ⟨none, 0, by rw [h0]⟩
  · exact ⟨_, _, rfl⟩
theorem OwnI.rd {w : World} {B n cap : Nat} {a : Option Addr} {xs : List Int} (h : OwnI w B (.slice a n cap) xs) : Rd w a xs := by
  rcases h.2 with ⟨e, h0⟩ | ⟨g, cap', cur, e, hb, hg, hn, hm, hs, ht⟩
  · exact ⟨by omega, fun k hk => by omega⟩
  · simp only [Value.slice.injEq] at e
    obtain ⟨rfl, rfl, rfl⟩ := e
    refine ⟨by unfold maxLen at hm; omega, fun k hk => ⟨g, 0, rfl, (Array.getElem?_eq_some_iff.1 hg).1, ?_⟩⟩
    have := World.ownsRow.cellAt h k (by omega)
    rw [Nat.zero_add, this]
    simp [nth, hk]
theorem OwnI.blk {w : World} {B n cap : Nat} {a : Option Addr} {xs : List Int} (h : OwnI w B (.slice a n cap) xs) : ∀ b off s, a = some ⟨b, off, s⟩ → B ≤ b ∧ b < w.heap.size := by
  intro b off s e
  subst e
  exact World.ownsRow.lt h b rfl
theorem OwnI.kept {w w' : World} {B : Nat} {v : Value} {xs : List Int} {row : Option Nat} (h : OwnI w B v xs) (hg : w.grownBy w' row) (hne : v.ownBlock = none ∨ v.ownBlock ≠ row) : OwnI w' B v xs := World.ownsRow.kept h hg hne
theorem OwnI.mono {w : World} {B B' : Nat} {v : Value} {xs : List Int} (h : OwnI w B v xs) (hB : B' ≤ B) : OwnI w B' v xs := by
  refine ⟨h.1, ?_⟩
  rcases h.2 with hn | ⟨g, cap, cur, e, hb, rest⟩
  · exact .inl hn
  · exact .inr ⟨g, cap, cur, e, by omega, rest⟩
theorem OwnI.below {w w' : World} {B B' : Nat} {v : Value} {xs : List Int} (h : OwnI w B v xs) (hb : Below B' w w') (hB : w.heap.size ≤ B') : OwnI w' B v xs := by
  refine ⟨h.1, ?_⟩
  rcases h.2 with hn | ⟨g, cap, cur, e, hb', hg, rest⟩
  · exact .inl hn
  · refine .inr ⟨g, cap, cur, e, hb', ?_, rest⟩
    rw [hb.block g (by have := (Array.getElem?_eq_some_iff.1 hg).1; omega)]
    exact hg
theorem ret_bool {a b : Bool} (h : a = b) : Ending.returned (.bool a) = .returned (.bool b) := by rw [h]
theorem ret_int {a b : Int} (h : a = b) : Ending.returned (.int .i64 a) = .returned (.int .i64 b) := by rw [h]
theorem val_int {a b : Int} (h : a = b) : Value.int .i64 a = .int .i64 b := by rw [h]
theorem grown_below {w w' : World} {g : Nat} (h : w.grownBy w' (some g)) (B : Nat) (hB : B ≤ g) (hs : B ≤ w.heap.size) : Below B w w' :=
  ⟨h.os, h.tape, h.output, h.size, fun k hk => h.block k (by omega) (by intro e; simp only [Option.some.injEq] at e; omega)⟩
theorem below_grown {w w' : World} {B : Nat} (h : Below B w w') (hB : w.heap.size ≤ B) (row : Option Nat) : w.grownBy w' row :=
  ⟨h.os, h.tape, h.output, h.size, fun k hk _ => h.block k (by omega)⟩
theorem bcell {W w1 : World} (hb : Below W.heap.size W w1) : (∀ b o, b < W.heap.size → w1.cell? ⟨b, o, none⟩ = W.cell? ⟨b, o, none⟩) ∧ (∀ b o, b < W.heap.size → w1.frozen? ⟨b, o, none⟩ = W.frozen? ⟨b, o, none⟩) :=
  ⟨fun b o h => hb.cell (p := ⟨b, o, none⟩) h, fun b o h => hb.frozen (p := ⟨b, o, none⟩) h⟩
theorem infoInt : (Try.prog.info? 3).map (fun i => (i.zero, i.size, i.bytes)) = some (some (.int .i64 0), 1, 8) := by kernel_rfl
theorem OwnI.setBelow {w : World} {B : Nat} {v : Value} {xs : List Int} (h : OwnI w B v xs) {p : Addr} (hp : p.block < B) (u : Value) : OwnI (w.setCell p u) B v xs := ownsRow_setCell_below h hp u
theorem OwnI.alloc {w : World} {B : Nat} {v : Value} {xs : List Int} (h : OwnI w B v xs) (o : Obj) : OwnI (w.alloc o) B v xs := h.below ((Below.refl _ _).alloc (Nat.le_refl _) o) (Nat.le_refl _)
theorem Below.mono' {B B' : Nat} {w w' : World} (h : Below B w w') (hB : B' ≤ B) : Below B' w w' := h.mono hB
/-- a block that holds two cells -/
def Box2 (w : World) (b : Nat) (u v : Value) : Prop := b < w.heap.size ∧ w.cell? ⟨b, 0, none⟩ = some u ∧ w.cell? ⟨b, 1, none⟩ = some v
theorem Box2.below {w w' : World} {b : Nat} {u v : Value} (h : Box2 w b u v) (hb : Below w.heap.size w w') : Box2 w' b u v :=
  ⟨Nat.lt_of_lt_of_le h.1 hb.size, (hb.cell (p := ⟨b, 0, none⟩) h.1).trans h.2.1, (hb.cell (p := ⟨b, 1, none⟩) h.1).trans h.2.2⟩
theorem Box2.new (w : World) (u v : Value) (t : TypeId) : Box2 (w.alloc (.cells #[u, v] t)) w.heap.size u v :=
  ⟨by simp, by simp, by simp⟩
theorem Box2.kept {w w' : World} {b : Nat} {u v : Value} {row : Option Nat} (h : Box2 w b u v) (hg : w.grownBy w' row) (hne : some b ≠ row) : Box2 w' b u v :=
  ⟨Nat.lt_of_lt_of_le h.1 hg.size, hg.cell h.2.1 hne, hg.cell h.2.2 hne⟩
theorem OwnI.lt {w : World} {B : Nat} {v : Value} {xs : List Int} (h : OwnI w B v xs) : ∀ b, v.ownBlock = some b → B ≤ b ∧ b < w.heap.size := World.ownsRow.lt h
theorem OwnI.cut {w : World} {B : Nat} {v : Value} {xs : List Int} (h : OwnI w B v xs) {U : Nat} (hU : w.heap.size ≤ U) : ∀ b, v.ownBlock = some b → B ≤ b ∧ b < U := fun b e => ⟨(h.lt b e).1, Nat.lt_of_lt_of_le (h.lt b e).2 hU⟩
/-- a block of two cells that may be written -/
def Var2 (w : World) (b : Nat) (u v : Value) : Prop := Box2 w b u v ∧ w.frozen? ⟨b, 0, none⟩ = false ∧ w.frozen? ⟨b, 1, none⟩ = false
theorem Var2.below {w w' : World} {b : Nat} {u v : Value} (h : Var2 w b u v) (hb : Below w.heap.size w w') : Var2 w' b u v :=
  ⟨h.1.below hb, (hb.frozen (p := ⟨b, 0, none⟩) h.1.1).trans h.2.1, (hb.frozen (p := ⟨b, 1, none⟩) h.1.1).trans h.2.2⟩
theorem Var2.new (w : World) (u v : Value) (t : TypeId) : Var2 (w.alloc (.cells #[u, v] t)) w.heap.size u v :=
  ⟨Box2.new w u v t, by simp, by simp⟩
theorem Var2.alloc {w : World} {b : Nat} {u v : Value} (h : Var2 w b u v) (o : Obj) : Var2 (w.alloc o) b u v := h.below ((Below.refl _ _).alloc (Nat.le_refl _) o)
theorem Var2.kept {w w' : World} {b : Nat} {u v : Value} {row : Option Nat} (h : Var2 w b u v) (hg : w.grownBy w' row) (hne : some b ≠ row) : Var2 w' b u v :=
  ⟨h.1.kept hg hne, (World.frozen?_of_block (w := w) (a := ⟨b, 0, none⟩) (hg.block b h.1.1 hne)).trans h.2.1, (World.frozen?_of_block (w := w) (a := ⟨b, 1, none⟩) (hg.block b h.1.1 hne)).trans h.2.2⟩
theorem Var2.set {w : World} {b : Nat} {u v : Value} (h : Var2 w b u v) (u' v' : Value) : Var2 ((w.setCell ⟨b, 0, none⟩ u').setCell ⟨b, 1, none⟩ v') b u' v' := by
  refine ⟨⟨by simpa using h.1.1, ?_, ?_⟩, by simpa using h.2.1, by simpa using h.2.2⟩
  · rw [World.cell?_setCell_other _ _ _ _ (by simp), World.cell?_setCell_same _ _ _ h.1.2.1]
  · rw [World.cell?_setCell_same _ _ _ (u := v) (by rw [World.cell?_setCell_other _ _ _ _ (by simp)]; exact h.1.2.2)]
theorem grown_set (w : World) (p : Addr) (u : Value) : w.grownBy (w.setCell p u) (some p.block) :=
  ⟨rfl, rfl, rfl, by simp, fun k hk hn => Below.heap_setCell w p u k (fun e => hn (by rw [e]))⟩
theorem Var2.set1 {w : World} {b : Nat} {u v : Value} (h : Var2 w b u v) (v' : Value) : Var2 (w.setCell ⟨b, 1, none⟩ v') b u v' := by
  refine ⟨⟨by simpa using h.1.1, ?_, ?_⟩, by simpa using h.2.1, by simpa using h.2.2⟩
  · rw [World.cell?_setCell_other _ _ _ _ (by simp)]; exact h.1.2.1
  · rw [World.cell?_setCell_same _ _ _ h.1.2.2]
theorem Box2.set {w : World} {b : Nat} {u v : Value} (h : Box2 w b u v) {p : Addr} (x : Value) (hne : b ≠ p.block) : Box2 (w.setCell p x) b u v :=
  h.kept (grown_set w p x) (by simpa using hne)
theorem Var2.other {w : World} {b : Nat} {u v : Value} (h : Var2 w b u v) {p : Addr} (x : Value) (hne : b ≠ p.block) : Var2 (w.setCell p x) b u v :=
  h.kept (grown_set w p x) (by simpa using hne)
theorem ne_own {v : Value} {b : Nat} (h : ∀ c, v.ownBlock = some c → c ≠ b) : some b ≠ v.ownBlock := fun e => h b e.symm rfl
theorem grown_alloc_set {w w1 : World} {r : Option Nat} {o : Obj} (h : (w.alloc o).grownBy w1 r) : w.grownBy w1 r :=
  ⟨h.os, h.tape, h.output, by have := h.size; simp at this; omega, fun k hk hn => (h.block k (by simp; omega) hn).trans (Below.heap_alloc w o k hk)⟩
theorem grown_trans {w w1 w2 : World} {r : Option Nat} (h1 : w.grownBy w1 r) (h2 : w1.grownBy w2 r) : w.grownBy w2 r :=
  ⟨h2.os.trans h1.os, h2.tape.trans h1.tape, h2.output.trans h1.output, Nat.le_trans h1.size h2.size, fun k hk hn => (h2.block k (by have := h1.size; omega) hn).trans (h1.block k hk hn)⟩
theorem OwnI.nil (w : World) (B : Nat) : OwnI w B (.slice none 0 0) [] := World.ownsRow_nil _ _ _ _
theorem below_of_grown {w w' : World} {v : Value} {B : Nat} (hg : w.grownBy w' v.ownBlock) (hB : ∀ b, v.ownBlock = some b → B ≤ b) (hs : B ≤ w.heap.size) : Below B w w' :=
  ⟨hg.os, hg.tape, hg.output, hg.size, fun k hk => hg.block k (by omega) (fun e => by have := hB k e.symm; omega)⟩

theorem set_step (xs : List Int) (k : Nat) (h : k < xs.length) :
    ((xs.take k ++ List.replicate (xs.length - k) (0:Int)).map (Value.int .i64)).set k (.int .i64 (nth xs k)) = (xs.take (k+1) ++ List.replicate (xs.length - (k+1)) (0:Int)).map (Value.int .i64) := by
  apply List.ext_getElem?
  intro j
  have hk : (xs.take k).length = k := by simp; omega
  have hk1 : (xs.take (k+1)).length = k+1 := by simp; omega
  rw [List.getElem?_set]
  by_cases hj : k = j
  · subst hj
    rw [if_pos rfl, if_pos (by simp; omega), List.getElem?_map, List.getElem?_append_left (by omega)]
    simp [nth, h]
  · simp only [hj, if_false, List.getElem?_map, List.getElem?_append, hk, hk1, List.getElem?_take, List.getElem?_replicate]
    by_cases h1 : j < k
    · have h2 : j < k + 1 := by omega
      simp [h1, h2]
    · have h2 : ¬ j < k + 1 := by omega
      have h3 : j - k < xs.length - k ↔ j - (k+1) < xs.length - (k+1) := by omega
      simp [h1, h2, h3]
theorem toIntS_any (a : Option Addr) (xs : List Int) (cap : Nat) (w : World) (hx : Rd w a xs) (hn : xs.length ≤ 1048576) :
    Calls Try.prog 19 #[.slice a xs.length cap] w fun e w' => ∃ a' cap', e = .returned (.slice a' xs.length cap') ∧ OwnI w' w.heap.size (.slice a' xs.length cap') xs ∧ Below w.heap.size w w' := by
  obtain ⟨i0, hi, hz0, hz1, hz2⟩ := info_parts infoInt
  go_enter Try.func19, Try.ntmps19
  go_wp2_with (at_make; refine wpList_make_full _ rfl (.tmp 6) (.tmp 6) 22 rfl w.heap.size 3 i0 (.int .i64 0) 1 Try.underlying22 hi hz0 hz1 .i64 .i64 _ _ xs.length rfl rfl rfl rfl (by rw [hz2]; omega) (by unfold maxLen; omega) (Nat.le_refl _) ?_; intro w1 hown hgrow)
  have hb0 : Below w.heap.size w w1 := (Below.refl _ _).grown hgrow (Nat.le_refl _) (fun k h => by cases h)
  have hown0 : w1.ownsRow w.heap.size 3 1 (.slice (some ⟨w.heap.size, 0, none⟩) xs.length xs.length) xs.length ((xs.take 0 ++ List.replicate (xs.length - 0) (0:Int)).map (Value.int .i64)) := by
    simpa [Value.cells, toList_madeCells_one] using hown
  clear hown hgrow
  have hz : w.heap.size < w1.heap.size := by
    have := (World.ownsRow.lt hown0 w.heap.size rfl).2
    omega
  go_loopw [4] (fun i wr => ∃ k : Nat, k ≤ xs.length ∧ i = .int .i64 k ∧ wr.ownsRow w.heap.size 3 1 (.slice (some ⟨w.heap.size, 0, none⟩) xs.length xs.length) xs.length ((xs.take k ++ List.replicate (xs.length - k) (0:Int)).map (Value.int .i64)) ∧ Below w.heap.size w wr) (fun i _ => xs.length - (intOf i).toNat)
  case atStart => exact ⟨0, Nat.zero_le _, rfl, hown0, hb0⟩
  case round =>
    obtain ⟨k, hk, rfl, hown, hb⟩ := hrel
    by_cases hlt : k < xs.length
    · obtain ⟨b, off, rfl, hbl, hc⟩ := hx.cell k hlt
      have hc1 := (hb.cell (p := ⟨b, off + k, none⟩) hbl).trans hc
      have hst := World.ownsRow.stored hown k (.int .i64 (nth xs k))
      rw [set_step xs k hlt] at hst
      have hcc := World.ownsRow.cellAt hown k (by omega)
      have hfr := World.ownsRow.frozenAt hown k
      have hcc' : ∃ u, wr.cell? ⟨w.heap.size, k, none⟩ = some u := by
        rw [hcc]
        exact ⟨_, List.getElem?_eq_getElem (by simp; omega)⟩
      obtain ⟨u, hu⟩ := hcc'
      have Hst := Lib.hid hst
      clear hst hcc hown hc
      go_wp2
      go_roundw
      case rel => exact ⟨k + 1, by omega, by go_num, Hst.out.1, hb.setCell (Nat.le_refl _) _⟩
      case measure => simp [intOf]; omega
    · obtain rfl : k = xs.length := by omega
      go_wp2
      go_ret
      refine ⟨_, _, rfl, ?_, hb⟩
      have : xs.take xs.length ++ List.replicate (xs.length - xs.length) (0:Int) = xs := by simp
      rw [this] at hown
      exact hown

def eqL (xs ys : List Int) : Bool := decide (xs = ys)
theorem eqIntS_any (a b : Option Addr) (xs ys : List Int) (ca cb : Nat) (w : World) (hx : Rd w a xs) (hy : Rd w b ys) :
    Calls Try.prog 21 #[.slice a xs.length ca, .slice b ys.length cb] w fun e w' => e = .returned (.bool (eqL xs ys)) ∧ Below w.heap.size w w' := by
  have hlx := hx.len
  have hly := hy.len
  by_cases hl : xs.length = ys.length
  · have hl' : ((xs.length : Int) != (ys.length : Int)) = false := by simp [hl]
    go_enter Try.func21, Try.ntmps21
    have HL := Lib.hid hl
    clear hl
    go_wp2_with fail
    go_loopw [5] (fun i wr => ∃ k : Nat, k ≤ xs.length ∧ i = .int .i64 k ∧ xs.take k = ys.take k ∧ Below w.heap.size w wr) (fun i _ => xs.length - (intOf i).toNat)
    case atStart => exact ⟨0, Nat.zero_le _, rfl, rfl, Below.refl _ _⟩
    case round =>
      obtain ⟨k, hk, rfl, htk, hb⟩ := hrel
      have HT := Lib.hid htk
      clear htk
      by_cases hlt : k < xs.length
      · have hlt' : k < ys.length := by rw [← HL.out]; exact hlt
        obtain ⟨b1, o1, rfl, hb1, hc1⟩ := (hx.below hb).cell k hlt
        obtain ⟨b2, o2, rfl, hb2, hc2⟩ := (hy.below hb).cell k hlt'
        by_cases he : nth xs k = nth ys k
        · have he' : (nth xs k != nth ys k) = false := by simp [he]
          have HE := Lib.hid he
          clear he
          go_wp2_with fail
          go_quiet (fail)
          go_wp2_with fail
          go_roundw
          case rel =>
            refine ⟨k + 1, by omega, by go_num, ?_, by exact hb.trans (Joins.below_draws _ _ _)⟩
            rw [List.take_succ_eq_append_getElem hlt, List.take_succ_eq_append_getElem hlt', HT.out, ← nth_get, ← nth_get, HE.out]
          case measure => simp [intOf]; omega
        · have he' : (nth xs k != nth ys k) = true := by simp [he]
          have hne : eqL xs ys = false := by
            simp only [eqL, decide_eq_false_iff_not]
            intro e
            subst e
            exact he rfl
          have HN := Lib.hid hne
          clear he hne
          go_wp2_with fail
          go_quiet (fail)
          go_wp2_with fail
          go_ret
          exact ⟨ret_bool HN.out.symm, hb.trans (Joins.below_draws _ _ _)⟩
      · go_wp2_with fail
        go_ret
        refine ⟨ret_bool ?_, hb⟩
        have h1 := HT.out
        rw [List.take_of_length_le (by omega), List.take_of_length_le (by rw [← HL.out]; omega)] at h1
        simp [eqL, h1]
  · have hl' : ((xs.length : Int) != (ys.length : Int)) = true := by simp; omega
    have hne : eqL xs ys = false := by
      simp only [eqL, decide_eq_false_iff_not]
      intro e
      exact hl (by rw [e])
    have HN := Lib.hid hne
    clear hl hne
    go_enter Try.func21, Try.ntmps21
    go_wp2_with fail
    go_ret
    exact ⟨ret_bool HN.out.symm, Below.refl _ _⟩
theorem eqL_self (xs : List Int) : eqL xs xs = true := by simp [eqL]

theorem wrap64_small (n : Int) (h0 : -9223372036854775808 ≤ n) (h1 : n ≤ 9223372036854775807) : IntKind.i64.wrap n = n := by
  simp only [IntKind.wrap, IntKind.bits, IntKind.signed]
  simp
  omega
theorem i64_wrap (n : Int) : IntKind.i64.wrap n = wrap64 n := IntWalk.i64_left n
theorem ofInt_i64 (a : Nat) (ha : a < 9223372036854775808) : (BitVec.ofInt 64 (a : Int)).toNat = a := by
  simp
  omega
theorem and_nat (a b : Nat) (ha : a < 9223372036854775808) (hb : b < 9223372036854775808) : bits .and .i64 (a : Int) (b : Int) = ((a &&& b : Nat) : Int) := by
  have hx : a &&& b < 2 ^ 63 := Nat.and_lt_two_pow _ (by omega)
  show IntKind.i64.wrap ((BitVec.ofInt 64 (a : Int) &&& BitVec.ofInt 64 (b : Int)).toNat : Int) = _
  rw [BitVec.toNat_and, ofInt_i64 a ha, ofInt_i64 b hb, wrap64_small _ (by omega) (by omega)]
theorem or_nat (a b : Nat) (ha : a < 9223372036854775808) (hb : b < 9223372036854775808) : bits .or .i64 (a : Int) (b : Int) = ((a ||| b : Nat) : Int) := by
  have hx : a ||| b < 2 ^ 63 := Nat.or_lt_two_pow (by omega) (by omega)
  show IntKind.i64.wrap ((BitVec.ofInt 64 (a : Int) ||| BitVec.ofInt 64 (b : Int)).toNat : Int) = _
  rw [BitVec.toNat_or, ofInt_i64 a ha, ofInt_i64 b hb, wrap64_small _ (by omega) (by omega)]
/-- a set without the elements of another one -/
def sub (a b : Nat) : Nat := a ^^^ (a &&& b)
theorem testBit_sub (a b i : Nat) : (sub a b).testBit i = (a.testBit i && !b.testBit i) := by
  simp [sub, Nat.testBit_xor, Nat.testBit_and]
  cases a.testBit i <;> cases b.testBit i <;> rfl
theorem sub_lt {a b n : Nat} (h : a < 2 ^ n) : sub a b < 2 ^ n := by
  unfold sub
  exact Nat.xor_lt_two_pow h (by rw [Nat.and_comm]; exact Nat.and_lt_two_pow _ h)
theorem sub_nat (a b : Nat) (ha : a < 9223372036854775808) (hb : b < 9223372036854775808) : bits .andNot .i64 (a : Int) (b : Int) = ((sub a b : Nat) : Int) := by
  have hs : sub a b < 2 ^ 63 := sub_lt (by omega)
  show IntKind.i64.wrap ((BitVec.ofInt 64 (a : Int) &&& ~~~BitVec.ofInt 64 (b : Int)).toNat : Int) = _
  have e : (BitVec.ofInt 64 (a : Int) &&& ~~~BitVec.ofInt 64 (b : Int)).toNat = sub a b := by
    apply Nat.eq_of_testBit_eq
    intro i
    rw [BitVec.testBit_toNat, BitVec.getLsbD_and, BitVec.getLsbD_not, testBit_sub, ← BitVec.testBit_toNat, ← BitVec.testBit_toNat, ofInt_i64 a ha, ofInt_i64 b hb]
    by_cases hi : i < 64
    · simp [hi]
    · have : a.testBit i = false := Nat.testBit_lt_two_pow (Nat.lt_of_lt_of_le (by omega : a < 2 ^ 64) (Nat.pow_le_pow_right (by omega) (by omega)))
      simp [this]
  rw [e, wrap64_small _ (by omega) (by omega)]
theorem shr_nat (s i : Nat) (hs : s < 9223372036854775808) : (s : Int) / (2 ^ min i 64) = ((s >>> i : Nat) : Int) := by
  rw [Nat.shiftRight_eq_div_pow]
  by_cases h : i ≤ 64
  · rw [Nat.min_eq_left h]
    simp
  · rw [Nat.min_eq_right (by omega)]
    have : 2 ^ 64 ≤ 2 ^ i := Nat.pow_le_pow_right (by omega) (by omega)
    rw [Nat.div_eq_of_lt (by omega)]
    omega
theorem bit_and (s i : Nat) (hs : s < 9223372036854775808) : (bits .and .i64 ((s >>> i : Nat) : Int) 1 == 1) = s.testBit i := by
  have h1 : s >>> i ≤ s := by rw [Nat.shiftRight_eq_div_pow]; exact Nat.div_le_self _ _
  have := and_nat (s >>> i) 1 (by omega) (by omega)
  rw [show ((1 : Nat) : Int) = 1 from rfl] at this
  rw [this, Nat.testBit, Nat.and_one_is_mod, Nat.and_comm, Nat.and_one_is_mod]
  rcases Nat.mod_two_eq_zero_or_one (s >>> i) with h | h <;> simp [h]
theorem bit_mod (s i : Nat) : (((s >>> i : Nat) : Int) % 2 == 1) = s.testBit i := by
  rw [Nat.testBit, Nat.and_comm, Nat.and_one_is_mod]
  rcases Nat.mod_two_eq_zero_or_one (s >>> i) with h | h
  · have h2 : ((s >>> i : Nat) : Int) % 2 = 0 := by omega
    rw [h2, h]; rfl
  · have h2 : ((s >>> i : Nat) : Int) % 2 = 1 := by omega
    rw [h2, h]; rfl
theorem bit_tmod (s i : Nat) : (((s >>> i : Nat) : Int).tmod 2 == 1) = s.testBit i := by
  rw [Int.tmod_eq_emod_of_nonneg (Int.natCast_nonneg _), bit_mod]
/-- is i in the set s? -/
def hasB (s i : Int) : Bool := s.toNat.testBit i.toNat
theorem has_and {s i : Int} (h0 : 0 ≤ s) (h1 : s ≤ 9223372036854775807) (hi : 0 ≤ i) : (bits .and .i64 (s / 2 ^ min i.toNat 64) 1 == 1) = hasB s i := by
  obtain ⟨S, rfl⟩ := Int.eq_ofNat_of_zero_le h0
  rw [shr_nat S _ (by omega), bit_and S _ (by omega)]
  rfl
theorem has_mod {s i : Int} (h0 : 0 ≤ s) (h1 : s ≤ 9223372036854775807) (hi : 0 ≤ i) : ((s / 2 ^ min i.toNat 64).tmod 2 == 1) = hasB s i := by
  obtain ⟨S, rfl⟩ := Int.eq_ofNat_of_zero_le h0
  rw [shr_nat S _ (by omega), bit_tmod S]
  rfl
theorem pow_w {k : Nat} (h : k < 62) : wrap64 (2 ^ k) = ((2 ^ k : Nat) : Int) := by
  have : 2 ^ k ≤ 2 ^ 61 := Nat.pow_le_pow_right (by omega) (by omega)
  rw [show ((2:Int) ^ k) = ((2 ^ k : Nat) : Int) by simp]
  generalize hp : 2 ^ k = p at *
  exact IntWalk.wrap64_in _ ⟨by omega, by omega⟩
theorem or_bit {b k : Nat} (hb : b < 4611686018427387904) (hk : k < 62) : bits .or .i64 (b : Int) (wrap64 (2 ^ k)) = ((b ||| 2 ^ k : Nat) : Int) := by
  rw [pow_w hk]
  have : 2 ^ k ≤ 2 ^ 61 := Nat.pow_le_pow_right (by omega) (by omega)
  exact or_nat _ _ (by omega) (by omega)
theorem or_i {a b : Int} (ha : 0 ≤ a) (ha1 : a < 9223372036854775808) (hb : 0 ≤ b) (hb1 : b < 9223372036854775808) : bits .or .i64 a b = ((a.toNat ||| b.toNat : Nat) : Int) := by
  obtain ⟨A, rfl⟩ := Int.eq_ofNat_of_zero_le ha
  obtain ⟨B, rfl⟩ := Int.eq_ofNat_of_zero_le hb
  exact or_nat A B (by omega) (by omega)
theorem sub_i {a b : Int} (ha : 0 ≤ a) (ha1 : a < 9223372036854775808) (hb : 0 ≤ b) (hb1 : b < 9223372036854775808) : bits .andNot .i64 a b = ((sub a.toNat b.toNat : Nat) : Int) := by
  obtain ⟨A, rfl⟩ := Int.eq_ofNat_of_zero_le ha
  obtain ⟨B, rfl⟩ := Int.eq_ofNat_of_zero_le hb
  exact sub_nat A B (by omega) (by omega)
theorem or_lt {a b n : Nat} (ha : a < 2 ^ n) (hb : b < 2 ^ n) : a ||| b < 2 ^ n := Nat.or_lt_two_pow ha hb
theorem two_lt {k n : Nat} (h : k < n) : 2 ^ k < 2 ^ n := Nat.pow_lt_pow_right (by omega) h
theorem testBit_two (k i : Nat) : (2 ^ k).testBit i = decide (k = i) := Nat.testBit_two_pow

/-- the set of the numbers below k to which f says yes -/
def pickTo (f : Nat → Bool) : Nat → Nat
  | 0 => 0
  | k+1 => if f k then pickTo f k ||| 2 ^ k else pickTo f k
theorem pickTo_lt (f : Nat → Bool) : ∀ k, pickTo f k < 2 ^ k
  | 0 => by simp [pickTo]
  | k+1 => by
    have h := pickTo_lt f k
    have h2 : 2 ^ k < 2 ^ (k+1) := two_lt (by omega)
    simp only [pickTo]
    split
    · exact or_lt (by omega) h2
    · omega
theorem pickTo_bit (f : Nat → Bool) (j : Nat) : ∀ k, (pickTo f k).testBit j = (decide (j < k) && f j)
  | 0 => by simp [pickTo]
  | k+1 => by
    have h := pickTo_bit f j k
    simp only [pickTo]
    by_cases hjk : j = k
    · subst hjk
      cases hb : f j
      · simp [h]
      · simp [Nat.testBit_or, testBit_two]
    · have e : decide (j < k + 1) = decide (j < k) := by
        rw [decide_eq_decide]; omega
      rw [e, ← h]
      have hkj : ¬ k = j := fun e => hjk e.symm
      cases hb : f k <;> simp [Nat.testBit_or, testBit_two, hkj]
theorem pickTo_small (f : Nat → Bool) {k : Nat} (h : k ≤ 10) : pickTo f k < 1024 := by
  have h1 := pickTo_lt f k
  have h2 : 2 ^ k ≤ 2 ^ 10 := Nat.pow_le_pow_right (by omega) h
  omega

/-- the elements of a set that are less than k, in order -/
def elemsTo (s : Nat) : Nat → List Int
  | 0 => []
  | k+1 => if s.testBit k then elemsTo s k ++ [(k : Int)] else elemsTo s k
theorem elemsTo_len (s : Nat) : ∀ k, (elemsTo s k).length ≤ k
  | 0 => by simp [elemsTo]
  | k+1 => by
    have := elemsTo_len s k
    simp only [elemsTo]
    split <;> simp <;> omega
theorem mem_elemsTo (s : Nat) (x : Int) : ∀ k, x ∈ elemsTo s k ↔ ∃ i : Nat, i < k ∧ s.testBit i = true ∧ x = i
  | 0 => by simp [elemsTo]
  | k+1 => by
    have ih := mem_elemsTo s x k
    simp only [elemsTo]
    cases hb : s.testBit k
    · rw [if_neg (by simp), ih]
      constructor
      · rintro ⟨i, h1, h2, h3⟩
        exact ⟨i, by omega, h2, h3⟩
      · rintro ⟨i, h1, h2, h3⟩
        have : i ≠ k := fun e => by rw [e, hb] at h2; cases h2
        exact ⟨i, by omega, h2, h3⟩
    · rw [if_pos rfl, List.mem_append, ih]
      constructor
      · rintro (⟨i, h1, h2, h3⟩ | h)
        · exact ⟨i, by omega, h2, h3⟩
        · exact ⟨k, by omega, hb, by simpa using h⟩
      · rintro ⟨i, h1, h2, h3⟩
        by_cases e : i = k
        · exact .inr (by simp [h3, e])
        · exact .inl ⟨i, by omega, h2, h3⟩
theorem elemsTo_more (s k : Nat) (h : s >>> k = 0) : ∀ m, elemsTo s (k + m) = elemsTo s k
  | 0 => rfl
  | m+1 => by
    have hb : s.testBit (k + m) = false := by
      rw [Nat.testBit]
      have : s >>> (k + m) = 0 := by rw [Nat.shiftRight_add, h]; simp
      simp [this]
    show elemsTo s (k + m + 1) = _
    simp only [elemsTo, hb]
    exact elemsTo_more s k h m
/-- all elements of a set below 1024 -/
def elems (s : Nat) : List Int := elemsTo s 10
theorem elems_at {s k : Nat} (h : s >>> k = 0) (hk : k ≤ 10) : elemsTo s k = elems s := by
  have := elemsTo_more s k h (10 - k)
  rw [show k + (10 - k) = 10 from by omega] at this
  exact this.symm
theorem elems_len (s : Nat) : (elems s).length ≤ 10 := elemsTo_len s 10
theorem mem_elems {s : Nat} (hs : s < 1024) {x : Int} : x ∈ elems s ↔ ∃ i : Nat, s.testBit i = true ∧ x = i := by
  rw [elems, mem_elemsTo]
  constructor
  · rintro ⟨i, _, h2, h3⟩
    exact ⟨i, h2, h3⟩
  · rintro ⟨i, h2, h3⟩
    refine ⟨i, ?_, h2, h3⟩
    rcases Nat.lt_or_ge i 10 with h | h
    · exact h
    · have : s < 2 ^ i := Nat.lt_of_lt_of_le hs (Nat.pow_le_pow_right (by omega : 0 < 2) h)
      rw [Nat.testBit_lt_two_pow this] at h2
      cases h2
theorem nth_mem {xs : List Int} {k : Nat} (h : k < xs.length) : nth xs k ∈ xs := by
  rw [nth_get xs k h]; exact List.getElem_mem h
theorem mem_nth {xs : List Int} {x : Int} (h : x ∈ xs) : ∃ k, k < xs.length ∧ nth xs k = x := by
  obtain ⟨k, hk, e⟩ := List.getElem_of_mem h
  exact ⟨k, hk, by rw [nth_get xs k hk, e]⟩

def inB (n lo hi : Int) : Bool := decide (lo ≤ n) && decide (n ≤ hi)
theorem inB_iff {n lo hi : Int} : inB n lo hi = true ↔ lo ≤ n ∧ n ≤ hi := by simp [inB]
theorem inB_no {n lo hi : Int} : inB n lo hi = false ↔ n < lo ∨ hi < n := by
  rw [← Bool.not_eq_true, inB_iff]
  omega

def allB (xs : List Int) (lo hi : Int) : Bool := xs.all (fun x => inB x lo hi)
theorem allB_take (xs : List Int) (lo hi : Int) (k : Nat) (h : k < xs.length) : allB (xs.take (k+1)) lo hi = (allB (xs.take k) lo hi && inB (nth xs k) lo hi) := by
  simp only [allB]
  rw [List.take_succ_eq_append_getElem h, List.all_append]
  simp [nth, h]
theorem allB_false {xs : List Int} {lo hi : Int} {k : Nat} (h : k < xs.length) (h1 : inB (nth xs k) lo hi = false) : allB xs lo hi = false := by
  simp only [allB, List.all_eq_false]
  exact ⟨xs[k], List.getElem_mem h, by simpa [nth, h] using h1⟩
theorem allB_nth {xs : List Int} {lo hi : Int} (h : allB xs lo hi = true) {k : Nat} (hk : k < xs.length) : lo ≤ nth xs k ∧ nth xs k ≤ hi := by
  simp only [allB, List.all_eq_true] at h
  have := inB_iff.1 (h _ (List.getElem_mem hk))
  rwa [← nth_get xs k hk] at this

/-- is it a relation? -/
def relB (n : Int) (xs : List Int) : Bool := inB n 0 10 && decide ((xs.length : Int) = n) && allB xs 0 (2 ^ n.toNat - 1)
theorem relB_iff {n : Int} {xs : List Int} : relB n xs = true ↔ (0 ≤ n ∧ n ≤ 10) ∧ (xs.length : Int) = n ∧ allB xs 0 (2 ^ n.toNat - 1) = true := by
  simp [relB, inB_iff, and_assoc]
theorem pow10 {n : Nat} (h : n ≤ 10) : (1 : Int) ≤ 2 ^ n ∧ (2 : Int) ^ n ≤ 1024 := by
  have h1 : 2 ^ n ≤ 2 ^ 10 := Nat.pow_le_pow_right (by omega) h
  have h2 : 1 ≤ 2 ^ n := Nat.one_le_two_pow
  have h3 : ((2 ^ n : Nat) : Int) = (2 : Int) ^ n := by simp
  omega
theorem full_eq {n : Int} (h0 : 0 ≤ n) (h1 : n ≤ 10) : wrap64 (wrap64 (2 ^ n.toNat) - 1) = 2 ^ n.toNat - 1 := by
  have h2 := pow10 (n := n.toNat) (by omega)
  generalize (2 : Int) ^ n.toNat = p at *
  rw [IntWalk.wrap64_in p ⟨by omega, by omega⟩, IntWalk.wrap64_in _ ⟨by omega, by omega⟩]
structure RelP (n : Int) (xs : List Int) : Prop where
  n0 : 0 ≤ n
  n1 : n ≤ 10
  len : (xs.length : Int) = n
  pos : ∀ k, k < xs.length → 0 ≤ nth xs k
  lt : ∀ k, k < xs.length → nth xs k < 2 ^ xs.length
  small : ∀ k, k < xs.length → nth xs k < 1024
theorem relB_p {n : Int} {xs : List Int} (h : relB n xs = true) : RelP n xs := by
  obtain ⟨⟨h0, h1⟩, h2, h3⟩ := relB_iff.1 h
  have e : n.toNat = xs.length := by omega
  rw [e] at h3
  have hp := pow10 (n := xs.length) (by omega)
  exact ⟨h0, h1, h2, fun k hk => (allB_nth h3 hk).1, fun k hk => by have := (allB_nth h3 hk).2; omega, fun k hk => by have := (allB_nth h3 hk).2; omega⟩

/-- the set of the indices below k of the lists that have i -/
def belowTo (xs : List Int) (i : Int) : Nat → Nat
  | 0 => 0
  | k+1 => if hasB (nth xs k) i then belowTo xs i k ||| 2 ^ k else belowTo xs i k
theorem belowTo_lt (xs : List Int) (i : Int) : ∀ k, belowTo xs i k < 2 ^ k
  | 0 => by simp [belowTo]
  | k+1 => by
    have h := belowTo_lt xs i k
    have h2 : 2 ^ k < 2 ^ (k+1) := two_lt (by omega)
    simp only [belowTo]
    split
    · exact or_lt (by omega) h2
    · omega
theorem belowTo_small (xs : List Int) (i : Int) {k : Nat} (h : k ≤ 10) : belowTo xs i k < 1024 := by
  have h1 := belowTo_lt xs i k
  have h2 : 2 ^ k ≤ 2 ^ 10 := Nat.pow_le_pow_right (by omega) h
  omega
theorem belowTo_bit (xs : List Int) (i : Int) (j : Nat) : ∀ k, (belowTo xs i k).testBit j = (decide (j < k) && hasB (nth xs j) i)
  | 0 => by simp [belowTo]
  | k+1 => by
    have h := belowTo_bit xs i j k
    simp only [belowTo]
    by_cases hjk : j = k
    · subst hjk
      cases hb : hasB (nth xs j) i
      · simp [h]
      · simp [Nat.testBit_or, testBit_two]
    · have e : decide (j < k + 1) = decide (j < k) := by
        rw [decide_eq_decide]; omega
      rw [e, ← h]
      have hkj : ¬ k = j := fun e => hjk e.symm
      cases hb : hasB (nth xs k) i <;> simp [Nat.testBit_or, testBit_two, hkj]

def okAtB (xs : List Int) (k : Nat) : Bool := !hasB (nth xs k) k && (List.range xs.length).all (fun j => !hasB (nth xs k) j || sub (nth xs j).toNat (nth xs k).toNat == 0)
/-- is it an order? -/
def ordB (n : Int) (xs : List Int) : Bool := relB n xs && (List.range xs.length).all (okAtB xs)
theorem okAtB_iff {xs : List Int} {k : Nat} : okAtB xs k = true ↔ hasB (nth xs k) k = false ∧ ∀ j, j < xs.length → hasB (nth xs k) j = true → sub (nth xs j).toNat (nth xs k).toNat = 0 := by
  simp only [okAtB, Bool.and_eq_true, Bool.not_eq_true', List.all_eq_true, List.mem_range, Bool.or_eq_true, beq_iff_eq]
  constructor
  · rintro ⟨h1, h2⟩
    exact ⟨h1, fun j hj hb => (h2 j hj).resolve_left (by simp [hb])⟩
  · rintro ⟨h1, h2⟩
    refine ⟨h1, fun j hj => ?_⟩
    cases hb : hasB (nth xs k) j
    · exact .inl rfl
    · exact .inr (h2 j hj hb)
theorem ordB_iff {n : Int} {xs : List Int} : ordB n xs = true ↔ relB n xs = true ∧ ∀ k, k < xs.length → okAtB xs k = true := by
  simp [ordB]
theorem ordB_no {n : Int} {xs : List Int} {k : Nat} (hk : k < xs.length) (h : okAtB xs k = false) : ordB n xs = false := by
  rw [← Bool.not_eq_true, ordB_iff]
  rintro ⟨_, h2⟩
  rw [h2 k hk] at h
  cases h
theorem okAtB_has {xs : List Int} {k : Nat} (h : hasB (nth xs k) k = true) : okAtB xs k = false := by
  simp [okAtB, h]
theorem okAtB_sub {xs : List Int} {k j : Nat} (hj : j < xs.length) (h : hasB (nth xs k) j = true) (h2 : sub (nth xs j).toNat (nth xs k).toNat ≠ 0) : okAtB xs k = false := by
  rw [← Bool.not_eq_true, okAtB_iff]
  rintro ⟨_, h3⟩
  exact h2 (h3 j hj h)
theorem sub_zero {a b : Nat} : sub a b = 0 ↔ ∀ i, a.testBit i = true → b.testBit i = true := by
  constructor
  · intro h i hi
    have := testBit_sub a b i
    rw [h, hi] at this
    simpa using this.symm
  · intro h
    apply Nat.eq_of_testBit_eq
    intro i
    rw [testBit_sub]
    cases ha : a.testBit i
    · simp
    · simp [h i ha]
theorem has_lt {n : Int} {xs : List Int} (hp : RelP n xs) {k : Nat} (hk : k < xs.length) {j : Nat} (h : hasB (nth xs k) j = true) : j < xs.length := by
  rcases Nat.lt_or_ge j xs.length with h' | h'
  · exact h'
  · have h1 := hp.lt k hk
    have h0 := hp.pos k hk
    have h2 : (nth xs k).toNat < 2 ^ j := by
      have : (2 : Nat) ^ xs.length ≤ 2 ^ j := Nat.pow_le_pow_right (by omega) h'
      have e : ((2 ^ xs.length : Nat) : Int) = (2 : Int) ^ xs.length := by simp
      omega
    simp only [hasB] at h
    rw [Int.toNat_natCast, Nat.testBit_lt_two_pow h2] at h
    cases h

/-- is the element i of the set s chosen? -/
def chF (xs : List Int) (s : Int) (i : Nat) : Bool := hasB s i && ((nth xs i).toNat &&& s.toNat == 0)
def chN (xs : List Int) (s : Int) : Nat := pickTo (chF xs s) xs.length
def choOk (n : Int) (xs : List Int) (s : Int) : Bool := relB n xs && inB s 0 (2 ^ n.toNat - 1)
def choV (n : Int) (xs : List Int) (s : Int) : Int := if choOk n xs s then ((chN xs s : Nat) : Int) else 0
theorem chN_lt (xs : List Int) (s : Int) : chN xs s < 2 ^ xs.length := pickTo_lt _ _
theorem chN_small {n : Int} {xs : List Int} (hp : RelP n xs) (s : Int) : chN xs s < 1024 := pickTo_small _ (by have := hp.len; have := hp.n1; omega)
/-- the set of those numbers of the beginning of a list to which f says yes -/
def orTo (es : List Int) (f : Nat → Bool) : Nat → Nat
  | 0 => 0
  | m+1 => if f (nth es m).toNat then orTo es f m ||| 2 ^ (nth es m).toNat else orTo es f m
theorem orTo_bit (es : List Int) (f : Nat → Bool) (j : Nat) : ∀ m, (orTo es f m).testBit j = true ↔ ∃ q, q < m ∧ (nth es q).toNat = j ∧ f j = true
  | 0 => by simp [orTo]
  | m+1 => by
    have ih := orTo_bit es f j m
    simp only [orTo]
    constructor
    · intro h
      split at h
      · rename_i hf
        rw [Nat.testBit_or, testBit_two, Bool.or_eq_true, decide_eq_true_eq] at h
        rcases h with h | h
        · obtain ⟨q, h1, h2⟩ := ih.1 h
          exact ⟨q, by omega, h2⟩
        · exact ⟨m, by omega, h, by rw [← h]; exact hf⟩
      · obtain ⟨q, h1, h2⟩ := ih.1 h
        exact ⟨q, by omega, h2⟩
    · rintro ⟨q, h1, h2, h3⟩
      by_cases e : q = m
      · subst e
        rw [if_pos (by rw [h2]; exact h3), Nat.testBit_or, testBit_two, h2]; simp
      · have := ih.2 ⟨q, by omega, h2, h3⟩
        split
        · rw [Nat.testBit_or, this]; rfl
        · exact this
theorem orTo_lt (es : List Int) (f : Nat → Bool) (h : ∀ m, m < es.length → (nth es m).toNat < 10) : ∀ m, m ≤ es.length → orTo es f m < 2 ^ 10
  | 0, _ => by simp [orTo]
  | m+1, hm => by
    have ih := orTo_lt es f h m (by omega)
    simp only [orTo]
    split
    · exact or_lt ih (two_lt (h m (by omega)))
    · exact ih
theorem elems_at_lt {s m : Nat} (h : m < (elems s).length) : ∃ i : Nat, i < 10 ∧ s.testBit i = true ∧ nth (elems s) m = (i : Int) := by
  have := nth_mem h
  rw [elems, mem_elemsTo] at this
  exact this
theorem choice_at {n : Int} {xs : List Int} (hp : RelP n xs) {s : Int} (h0 : 0 ≤ s) (h1 : s < 2 ^ xs.length) {m : Nat} (hm : m < (elems s.toNat).length) :
    ∃ i : Nat, i < xs.length ∧ hasB s i = true ∧ nth (elems s.toNat) m = (i : Int) := by
  obtain ⟨i, hi, hb, e⟩ := elems_at_lt hm
  refine ⟨i, ?_, hb, e⟩
  rcases Nat.lt_or_ge i xs.length with h | h
  · exact h
  · have h2 : s.toNat < 2 ^ xs.length := by
      have h3 : ((2 ^ xs.length : Nat) : Int) = (2 : Int) ^ xs.length := by simp
      omega
    have : s.toNat.testBit i = false := Nat.testBit_lt_two_pow (Nat.lt_of_lt_of_le h2 (Nat.pow_le_pow_right (by omega) h))
    rw [this] at hb; cases hb
theorem choice_all {n : Int} {xs : List Int} (hp : RelP n xs) {s : Int} (h0 : 0 ≤ s) (h1 : s < 2 ^ xs.length) :
    orTo (elems s.toNat) (fun i => (nth xs i).toNat &&& s.toNat == 0) (elems s.toNat).length = chN xs s := by
  have hl : xs.length ≤ 10 := by have := hp.len; have := hp.n1; omega
  apply Nat.eq_of_testBit_eq
  intro j
  rw [Bool.eq_iff_iff, orTo_bit, chN, pickTo_bit]
  simp only [chF, Bool.and_eq_true, decide_eq_true_eq]
  constructor
  · rintro ⟨q, hq, hj, hf⟩
    obtain ⟨i, hi, hb, e⟩ := choice_at hp h0 h1 hq
    rw [e, Int.toNat_natCast] at hj
    subst hj
    exact ⟨hi, hb, hf⟩
  · rintro ⟨hj, hb, hf⟩
    have hm : (j : Int) ∈ elems s.toNat := by
      rw [elems, mem_elemsTo]
      exact ⟨j, by omega, hb, rfl⟩
    obtain ⟨q, hq, e⟩ := mem_nth hm
    exact ⟨q, hq, by rw [e]; rfl, hf⟩
theorem and_i {a b : Int} (ha : 0 ≤ a) (ha1 : a < 9223372036854775808) (hb : 0 ≤ b) (hb1 : b < 9223372036854775808) : bits .and .i64 a b = ((a.toNat &&& b.toNat : Nat) : Int) := by
  obtain ⟨A, rfl⟩ := Int.eq_ofNat_of_zero_le ha
  obtain ⟨B, rfl⟩ := Int.eq_ofNat_of_zero_le hb
  exact and_nat A B (by omega) (by omega)
theorem nat_beq0 (a : Nat) : (((a : Nat) : Int) == 0) = (a == 0) := by
  rw [Bool.eq_iff_iff]; simp
theorem pow_int {n k : Nat} : ((2 ^ n : Nat) : Int) = (2 : Int) ^ n := by simp

theorem andNot_zero {c : Int} {s : Nat} (h1 : -9223372036854775808 ≤ c) (h2 : c ≤ 9223372036854775807) (hs : s < 9223372036854775808) :
    (bits .andNot .i64 c (s : Int) == 0) = (decide (0 ≤ c) && (sub c.toNat s == 0)) := by
  by_cases h : 0 ≤ c
  · rw [sub_i h (by omega) (by omega) (by omega), nat_beq0, Int.toNat_natCast]
    simp [h]
  · have e1 : (BitVec.ofInt 64 c).toNat = (c + 18446744073709551616).toNat := by
      rw [BitVec.toNat_ofInt]
      congr 1
      omega
    have m1 : (BitVec.ofInt 64 c).msb = true := by
      rw [BitVec.msb_eq_decide, e1]
      simp; omega
    have m2 : (BitVec.ofInt 64 (s : Int)).msb = false := by
      rw [BitVec.msb_eq_decide, ofInt_i64 s hs]
      simp; omega
    have m3 : (BitVec.ofInt 64 c &&& ~~~BitVec.ofInt 64 (s : Int)).msb = true := by
      rw [BitVec.msb_and, BitVec.msb_not, m1, m2]; rfl
    have hlt := (BitVec.ofInt 64 c &&& ~~~BitVec.ofInt 64 (s : Int)).isLt
    rw [BitVec.msb_eq_decide, decide_eq_true_eq] at m3
    have hw : bits .andNot .i64 c (s : Int) = IntKind.i64.wrap ((BitVec.ofInt 64 c &&& ~~~BitVec.ofInt 64 (s : Int)).toNat : Int) := rfl
    rw [hw]
    generalize (BitVec.ofInt 64 c &&& ~~~BitVec.ofInt 64 (s : Int)).toNat = v at *
    have hv : IntKind.i64.wrap (v : Int) = (v : Int) - 18446744073709551616 := by
      simp only [IntKind.wrap, IntKind.bits, IntKind.signed]
      simp
      omega
    rw [hv]
    have : ((v : Int) - 18446744073709551616 == 0) = false := by
      rw [beq_eq_false_iff_ne]; omega
    rw [this]
    simp [h]
theorem sub_le {a b : Nat} (h : sub a b = 0) : a ≤ b := by
  have h3 : a &&& b = a := by
    apply Nat.eq_of_testBit_eq
    intro m
    rw [Nat.testBit_and]
    cases e : a.testBit m
    · rfl
    · rw [sub_zero.1 h m e]; rfl
  rw [← h3]; exact Nat.and_le_right
/-- is the number told for the set s a part of it, which is not empty unless s is? -/
def cellOk (xs : List Int) (s : Nat) : Bool := decide (0 ≤ nth xs s) && (sub (nth xs s).toNat s == 0) && !(nth xs s == 0 && decide (s ≠ 0))
def tbOk (n : Int) (xs : List Int) : Bool := inB n 0 4 && decide ((xs.length : Int) = 2 ^ n.toNat) && (List.range xs.length).all (cellOk xs)
theorem tbOk_iff {n : Int} {xs : List Int} : tbOk n xs = true ↔ (0 ≤ n ∧ n ≤ 4) ∧ (xs.length : Int) = 2 ^ n.toNat ∧ ∀ s, s < xs.length → cellOk xs s = true := by
  simp [tbOk, inB_iff, and_assoc]
structure TbP (n : Int) (xs : List Int) : Prop where
  n0 : 0 ≤ n
  n1 : n ≤ 4
  len : xs.length = 2 ^ n.toNat
  small : xs.length ≤ 16
  pos : ∀ s, s < xs.length → 0 ≤ nth xs s
  part : ∀ s, s < xs.length → ∀ j, (nth xs s).toNat.testBit j = true → s.testBit j = true
  le : ∀ s, s < xs.length → (nth xs s).toNat ≤ s
  ne : ∀ s, s < xs.length → 0 < s → nth xs s ≠ 0
theorem tbOk_p {n : Int} {xs : List Int} (h : tbOk n xs = true) : TbP n xs := by
  obtain ⟨⟨h0, h1⟩, h2, h3⟩ := tbOk_iff.1 h
  have e : xs.length = 2 ^ n.toNat := by have := pow_int (n := n.toNat) (k := 0); omega
  have hp : 2 ^ n.toNat ≤ 2 ^ 4 := Nat.pow_le_pow_right (by omega) (by omega)
  have hc : ∀ s, s < xs.length → 0 ≤ nth xs s ∧ sub (nth xs s).toNat s = 0 ∧ (0 < s → nth xs s ≠ 0) := by
    intro s hs
    have := h3 s hs
    simp only [cellOk, Bool.and_eq_true, decide_eq_true_eq, beq_iff_eq, Bool.not_eq_true', Bool.and_eq_false_iff, beq_eq_false_iff_ne, decide_eq_false_iff_not] at this
    refine ⟨this.1.1, this.1.2, fun hs0 => ?_⟩
    rcases this.2 with h | h
    · exact h
    · omega
  exact ⟨h0, h1, e, by omega, fun s hs => (hc s hs).1, fun s hs => sub_zero.1 (hc s hs).2.1, fun s hs => sub_le (hc s hs).2.1, fun s hs h => (hc s hs).2.2 h⟩
theorem TbP.lt {n : Int} {xs : List Int} (h : TbP n xs) {s : Nat} (hs : s < xs.length) : (nth xs s).toNat < xs.length := by
  have := h.le s hs
  omega
theorem TbP.or {n : Int} {xs : List Int} (h : TbP n xs) {a b : Nat} (ha : a < xs.length) (hb : b < xs.length) : a ||| b < xs.length := by
  have := h.len
  rw [this] at ha hb ⊢
  exact or_lt ha hb
theorem tbOk_size {n : Int} {xs : List Int} (h : inB n 0 4 = false) : tbOk n xs = false := by simp [tbOk, h]
theorem tbOk_len {n : Int} {xs : List Int} (h : ¬ (xs.length : Int) = 2 ^ n.toNat) : tbOk n xs = false := by simp [tbOk, h]
theorem tbOk_cell {n : Int} {xs : List Int} {s : Nat} (hs : s < xs.length) (h : cellOk xs s = false) : tbOk n xs = false := by
  rw [← Bool.not_eq_true, tbOk_iff]
  rintro ⟨_, _, h3⟩
  rw [h3 s hs] at h; cases h
theorem wrap_pow4 {n : Int} (h0 : 0 ≤ n) (h1 : n ≤ 4) : wrap64 (2 ^ n.toNat) = 2 ^ n.toNat ∧ (1 : Int) ≤ 2 ^ n.toNat ∧ (2 : Int) ^ n.toNat ≤ 16 := by
  have hp : 2 ^ n.toNat ≤ 2 ^ 4 := Nat.pow_le_pow_right (by omega) (by omega)
  have h2 : 1 ≤ 2 ^ n.toNat := Nat.one_le_two_pow
  have e : ((2 ^ n.toNat : Nat) : Int) = (2 : Int) ^ n.toNat := by simp
  refine ⟨?_, by omega, by omega⟩
  generalize (2 : Int) ^ n.toNat = p at *
  exact IntWalk.wrap64_in _ ⟨by omega, by omega⟩

/-- do the sets a and b break a property of a table? -/
def fkB (kind : Nat) (xs : List Int) (a b : Nat) : Bool :=
  match kind with
  | 0 => sub b a == 0 && sub ((nth xs a).toNat &&& b) (nth xs b).toNat != 0
  | 1 => sub ((nth xs a).toNat &&& (nth xs b).toNat) (nth xs (a ||| b)).toNat != 0
  | 2 => sub b a == 0 && sub (nth xs a).toNat b == 0 && sub (nth xs b).toNat (nth xs a).toNat != 0
  | _ => nth xs (a ||| b) != nth xs ((nth xs a).toNat ||| (nth xs b).toNat)
def brA (kind : Nat) (xs : List Int) : Option Nat := (List.range xs.length).find? (fun a => (List.range xs.length).any (fun b => fkB kind xs a b))
def brX (kind : Nat) (n : Int) (xs : List Int) : Int := if tbOk n xs then (match brA kind xs with | some a => (a : Int) | none => 0) else 0
def brY (kind : Nat) (n : Int) (xs : List Int) : Int := if tbOk n xs then (match brA kind xs with | some a => (match (List.range xs.length).find? (fkB kind xs a) with | some b => (b : Int) | none => 0) | none => 0) else 0
def brO (kind : Nat) (n : Int) (xs : List Int) : Bool := tbOk n xs && (brA kind xs).isSome
theorem br_no {kind : Nat} {n : Int} {xs : List Int} (h : tbOk n xs = false) : brX kind n xs = 0 ∧ brY kind n xs = 0 ∧ brO kind n xs = false := by
  simp [brX, brY, brO, h]
theorem br_none {kind : Nat} {n : Int} {xs : List Int} (h : ∀ a, a < xs.length → ∀ b, b < xs.length → fkB kind xs a b = false) : brX kind n xs = 0 ∧ brY kind n xs = 0 ∧ brO kind n xs = false := by
  have : brA kind xs = none := by
    rw [brA, List.find?_eq_none]
    intro a ha
    simp only [List.mem_range] at ha
    simp only [List.any_eq_true, List.mem_range, not_exists, not_and]
    intro b hb
    simp [h a ha b hb]
  simp [brX, brY, brO, this]
theorem br_some {kind : Nat} {n : Int} {xs : List Int} (ht : tbOk n xs = true) {k j : Nat} (hk : k < xs.length) (hj : j < xs.length) (h1 : ∀ a, a < k → ∀ b, b < xs.length → fkB kind xs a b = false) (h2 : ∀ b, b < j → fkB kind xs k b = false) (h3 : fkB kind xs k j = true) :
    brX kind n xs = k ∧ brY kind n xs = j ∧ brO kind n xs = true := by
  have e1 : brA kind xs = some k := by
    rw [brA, List.find?_range_eq_some]
    refine ⟨?_, List.mem_range.2 hk, fun a ha => ?_⟩
    · rw [List.any_eq_true]
      exact ⟨j, List.mem_range.2 hj, h3⟩
    · rw [Bool.not_eq_true', ← Bool.not_eq_true, List.any_eq_true]
      rintro ⟨b, hb, hf⟩
      rw [h1 a ha b (List.mem_range.1 hb)] at hf
      cases hf
  have e2 : (List.range xs.length).find? (fkB kind xs k) = some j := by
    rw [List.find?_range_eq_some]
    exact ⟨h3, List.mem_range.2 hj, fun b hb => by rw [h2 b hb]; rfl⟩
  simp [brX, brY, brO, ht, e1, e2]
theorem nat_bne0 (a : Nat) : (((a : Nat) : Int) != 0) = (a != 0) := by
  rw [bne, bne, nat_beq0]
/-- the words of the tests -/
structure BrkW (xs : List Int) (a b : Nat) : Prop where
  part : (bits .andNot .i64 (b : Int) (a : Int) == 0) = (sub b a == 0)
  shr : (bits .andNot .i64 (bits .and .i64 (nth xs a) (b : Int)) (nth xs b) != 0) = (sub ((nth xs a).toNat &&& b) (nth xs b).toNat != 0)
  grw : (bits .andNot .i64 (bits .and .i64 (nth xs a) (nth xs b)) (nth xs (a ||| b)) != 0) = (sub ((nth xs a).toNat &&& (nth xs b).toNat) (nth xs (a ||| b)).toNat != 0)
  has : (bits .andNot .i64 (nth xs a) (b : Int) == 0) = (sub (nth xs a).toNat b == 0)
  out : (bits .andNot .i64 (nth xs b) (nth xs a) != 0) = (sub (nth xs b).toNat (nth xs a).toNat != 0)
  ors : bits .or .i64 (a : Int) (b : Int) = ((a ||| b : Nat) : Int)
  orc : bits .or .i64 (nth xs a) (nth xs b) = (((nth xs a).toNat ||| (nth xs b).toNat : Nat) : Int)
theorem brkW {n : Int} {xs : List Int} (hp : TbP n xs) {a b : Nat} (ha : a < xs.length) (hb : b < xs.length) : BrkW xs a b := by
  have h16 := hp.small
  have hab := hp.or ha hb
  have la := hp.lt ha
  have lb := hp.lt hb
  have lab := hp.lt hab
  have pa := hp.pos a ha
  have pb := hp.pos b hb
  have pab := hp.pos _ hab
  have e1 := and_i (a := nth xs a) (b := (b : Int)) pa (by omega) (by omega) (by omega)
  have e2 := and_i (a := nth xs a) (b := nth xs b) pa (by omega) pb (by omega)
  have s1 : (nth xs a).toNat &&& b ≤ b := Nat.and_le_right
  have s2 : (nth xs a).toNat &&& (nth xs b).toNat ≤ (nth xs b).toNat := Nat.and_le_right
  refine ⟨?_, ?_, ?_, ?_, ?_, ?_, ?_⟩
  · rw [sub_nat _ _ (by omega) (by omega), nat_beq0]
  · rw [e1, sub_i (by omega) (by simp only [Int.toNat_natCast]; omega) pb (by omega), nat_bne0, Int.toNat_natCast, Int.toNat_natCast]
  · rw [e2, sub_i (by omega) (by omega) pab (by omega), nat_bne0, Int.toNat_natCast]
  · rw [sub_i pa (by omega) (by omega) (by omega), nat_beq0, Int.toNat_natCast]
  · rw [sub_i pb (by omega) pa (by omega), nat_bne0]
  · exact or_nat _ _ (by omega) (by omega)
  · exact or_i pa (by omega) pb (by omega)

theorem cfFails_any (kind : Nat) (n : Int) (ad : Option Addr) (xs : List Int) (cap : Nat) (a b : Nat) (w : World) (hx : Rd w ad xs) (hp : TbP n xs) (ha : a < xs.length) (hb : b < xs.length) (hk : kind ≤ 3) :
    Calls Try.prog 64 #[.slice ad xs.length cap, .int .i64 a, .int .i64 b, .int .i64 kind] w fun e w' => e = .returned (.bool (fkB kind xs a b)) ∧ Below w.heap.size w w' := by
  have W := brkW hp ha hb
  have hab := hp.or ha hb
  have la := hp.lt ha
  have lb := hp.lt hb
  have pa := hp.pos a ha
  have pb := hp.pos b hb
  have ho : (nth xs a).toNat ||| (nth xs b).toNat < xs.length := hp.or la lb
  obtain ⟨bk, off, rfl, hbl, ca⟩ := hx.cell a ha
  obtain ⟨b1, off1, e1, hbl1, cb⟩ := hx.cell b hb
  simp only [Option.some.injEq, Addr.mk.injEq, and_true] at e1
  obtain ⟨rfl, rfl⟩ := e1
  obtain ⟨b1, off1, e1, hbl1, cab⟩ := hx.cell _ hab
  simp only [Option.some.injEq, Addr.mk.injEq, and_true] at e1
  obtain ⟨rfl, rfl⟩ := e1
  obtain ⟨b1, off1, e1, hbl1, co⟩ := hx.cell _ ho
  simp only [Option.some.injEq, Addr.mk.injEq, and_true] at e1
  obtain ⟨rfl, rfl⟩ := e1
  have hlen := hp.small
  have W1 := W.part
  have W2 := W.shr
  have W3 := W.grw
  have W4 := W.has
  have W5 := W.out
  have W6 := W.ors
  have W7 := W.orc
  clear W
  obtain rfl | rfl | rfl | rfl : kind = 0 ∨ kind = 1 ∨ kind = 2 ∨ kind = 3 := by omega
  · have HF : Hid (fkB 0 xs a b = (sub b a == 0 && sub ((nth xs a).toNat &&& b) (nth xs b).toNat != 0)) := rfl
    cases h1 : (sub b a == 0)
    all_goals cases h2 : (sub ((nth xs a).toNat &&& b) (nth xs b).toNat != 0)
    all_goals
      rw [h1] at W1 HF
      rw [h2] at W2 HF
      clear W3 W4 W5 W6 W7 h1 h2
      go_enter Try.func64, Try.ntmps64
      go_wp2_with fail
      go_quiet (fail)
      go_wp2_with fail
      go_ret
      exact ⟨ret_bool HF.out.symm, Joins.below_draws _ _ _⟩
  · have HF : Hid (fkB 1 xs a b = (sub ((nth xs a).toNat &&& (nth xs b).toNat) (nth xs (a ||| b)).toNat != 0)) := rfl
    cases h3 : (sub ((nth xs a).toNat &&& (nth xs b).toNat) (nth xs (a ||| b)).toNat != 0)
    all_goals
      rw [h3] at W3 HF
      clear W1 W2 W4 W5 W7 h3
      go_enter Try.func64, Try.ntmps64
      go_wp2_with fail
      go_quiet (fail)
      go_wp2_with fail
      go_ret
      exact ⟨ret_bool HF.out.symm, Joins.below_draws _ _ _⟩
  · have HF : Hid (fkB 2 xs a b = (sub b a == 0 && sub (nth xs a).toNat b == 0 && sub (nth xs b).toNat (nth xs a).toNat != 0)) := rfl
    cases h1 : (sub b a == 0)
    all_goals cases h4 : (sub (nth xs a).toNat b == 0)
    all_goals cases h5 : (sub (nth xs b).toNat (nth xs a).toNat != 0)
    all_goals
      rw [h1] at W1 HF
      rw [h4] at W4 HF
      rw [h5] at W5 HF
      clear W2 W3 W6 W7 h1 h4 h5
      go_enter Try.func64, Try.ntmps64
      go_wp2_with fail
      go_quiet (fail)
      go_wp2_with fail
      go_ret
      exact ⟨ret_bool HF.out.symm, Joins.below_draws _ _ _⟩
  · have HF : Hid (fkB 3 xs a b = (nth xs (a ||| b) != nth xs ((nth xs a).toNat ||| (nth xs b).toNat))) := rfl
    cases h3 : (nth xs (a ||| b) != nth xs ((nth xs a).toNat ||| (nth xs b).toNat))
    all_goals
      rw [h3] at HF
      clear W1 W2 W3 W4 W5
      go_enter Try.func64, Try.ntmps64
      go_wp2_with fail
      go_quiet (fail)
      go_wp2_with fail
      go_ret
      exact ⟨ret_bool HF.out.symm, Joins.below_draws _ _ _⟩

theorem l1In_any (n lo hi : Int) (w : World) :
    Calls Try.prog 44 #[.int .i64 n, .int .i64 lo, .int .i64 hi] w fun e w' => e = .returned (.bool (inB n lo hi)) ∧ w = w' := by
  go_enter Try.func44, Try.ntmps44
  go_wp2
  all_goals (go_ret; exact ⟨ret_bool (by simp [inB]; try omega), rfl⟩)
theorem l1In_is {n lo hi : Int} {b : Bool} (h : inB n lo hi = b) (w : World) (m : Nat) :
    Calls Try.prog 44 #[.int .i64 n, .int .i64 lo, .int .i64 hi] (w.drewN m) fun e w' => e = .returned (.bool b) ∧ ∃ k, w' = w.drewN k :=
  Calls.quiet_of_same ((l1In_any n lo hi (w.drewN m)).mono (fun e w' hh => ⟨by rw [← h]; exact hh.1, hh.2.symm⟩))

theorem cfSize_any (n : Int) (w : World) :
    Calls Try.prog 49 #[.int .i64 n] w fun e w' => e = .returned (.bool (inB n 0 4)) ∧ w = w' := by
  go_enter Try.func49, Try.ntmps49
  go_wp2_with (go_at_call 44; refine (l1In_any _ _ _ _).mono ?_; rintro e w' ⟨rfl, rfl⟩)
  go_ret
  exact ⟨rfl, rfl⟩
theorem cfGood_any (n : Int) (a : Option Addr) (xs : List Int) (cap : Nat) (w : World) (hn : -9223372036854775808 ≤ n ∧ n ≤ 9223372036854775807) (hx : Rd w a xs) (hw : ∀ k, k < xs.length → -9223372036854775808 ≤ nth xs k ∧ nth xs k ≤ 9223372036854775807) :
    Calls Try.prog 50 #[.int .i64 n, .slice a xs.length cap] w fun e w' => e = .returned (.bool (tbOk n xs)) ∧ w = w' := by
  have hlen := hx.len
  cases HEo : inB n 0 4
  · have HE := Lib.hid HEo
    have HN := Lib.hid (tbOk_size (xs := xs) HEo)
    clear HEo
    go_enter Try.func50, Try.ntmps50
    go_wp2_with fail
    refine (cfSize_any _ _).mono ?_
    rw [HE.out]
    rintro e w' ⟨rfl, rfl⟩
    go_wp2_with fail
    go_ret
    exact ⟨ret_bool HN.out.symm, rfl⟩
  · have HE := Lib.hid HEo
    have ⟨h0, h1⟩ := inB_iff.1 HEo
    clear HEo
    have ⟨hw4, hp1, hp16⟩ := wrap_pow4 h0 h1
    by_cases hl : (xs.length : Int) = 2 ^ n.toNat
    · have hne : ((xs.length : Int) != wrap64 (2 ^ n.toNat)) = false := by rw [hw4, hl]; simp
      have hl16 : xs.length ≤ 16 := by omega
      have HL := Lib.hid hl
      clear hl hw4 hp1 hp16
      go_enter Try.func50, Try.ntmps50
      go_wp2_with fail
      refine (cfSize_any _ _).mono ?_
      rw [HE.out]
      rintro e w' ⟨rfl, rfl⟩
      go_wp2_with fail
      go_loop [19] (fun i => ∃ k : Nat, k ≤ xs.length ∧ i = .int .i64 k ∧ ∀ s, s < k → cellOk xs s = true) (fun i => xs.length - (intOf i).toNat)
      case atStart => exact ⟨0, Nat.zero_le _, rfl, fun s hs => by omega⟩
      case round =>
        obtain ⟨k, hk, rfl, hall⟩ := hrel
        have HA := Lib.hid hall
        clear hall
        by_cases hlt : k < xs.length
        · obtain ⟨b, off, rfl, hbl, hc⟩ := hx.cell k hlt
          have ⟨g1, g2⟩ := hw k hlt
          have han := andNot_zero (s := k) g1 g2 (by omega)
          cases hin : inB (nth xs k) 0 k
          · have HN : Hid (tbOk n xs = false) := by
              refine tbOk_cell hlt ?_
              rw [← Bool.not_eq_true]
              intro ho
              simp only [cellOk, Bool.and_eq_true, decide_eq_true_eq, beq_iff_eq] at ho
              have h3 := sub_le ho.1.2
              have h4 := inB_no.1 hin
              omega
            clear han
            go_wp2_with fail
            refine (l1In_any _ _ _ _).mono ?_
            rw [hin]
            rintro e w' ⟨rfl, rfl⟩
            go_wp2_with fail
            go_ret
            exact ⟨ret_bool HN.out.symm, rfl⟩
          · have HI := Lib.hid hin
            clear hin
            cases ha : (decide (0 ≤ nth xs k) && (sub (nth xs k).toNat k == 0))
            · have hb : (bits .andNot .i64 (nth xs k) (k : Int) != 0) = true := by rw [bne, han, ha]; rfl
              have HN := Lib.hid (tbOk_cell (n := n) hlt (show cellOk xs k = false by simp only [cellOk, ha]; rfl))
              clear ha han
              go_wp2_with fail
              refine (l1In_any _ _ _ _).mono ?_
              rw [HI.out]
              rintro e w' ⟨rfl, rfl⟩
              go_wp2_with fail
              go_ret
              exact ⟨ret_bool HN.out.symm, rfl⟩
            · have hb : (bits .andNot .i64 (nth xs k) (k : Int) != 0) = false := by rw [bne, han, ha]; rfl
              cases hz : (nth xs k == 0)
              · have HO : Hid (cellOk xs k = true) := by simp only [Hid, cellOk, ha, hz]; rfl
                clear ha han
                go_wp2_with fail
                refine (l1In_any _ _ _ _).mono ?_
                rw [HI.out]
                rintro e w' ⟨rfl, rfl⟩
                go_wp2_with fail
                go_round
                case rel =>
                  refine ⟨k + 1, by omega, by go_num, fun s hs => ?_⟩
                  by_cases e : s = k
                  · rw [e]; exact HO.out
                  · exact HA.out s (by omega)
                case measure => simp [intOf]; omega
              · by_cases k0 : k = 0
                · have hk0 : ¬ (0 : Int) < (k : Int) := by rw [k0]; decide
                  have HO : Hid (cellOk xs k = true) := by simp only [Hid, cellOk, ha, hz]; simp [k0]
                  clear ha han k0
                  go_wp2_with fail
                  refine (l1In_any _ _ _ _).mono ?_
                  rw [HI.out]
                  rintro e w' ⟨rfl, rfl⟩
                  go_wp2_with fail
                  go_round
                  case rel =>
                    refine ⟨k + 1, by omega, by go_num, fun s hs => ?_⟩
                    by_cases e : s = k
                    · rw [e]; exact HO.out
                    · exact HA.out s (by omega)
                  case measure => simp [intOf]; omega
                · have hk0 : (0 : Int) < (k : Int) := by omega
                  have HN := Lib.hid (tbOk_cell (n := n) hlt (show cellOk xs k = false by simp only [cellOk, ha, hz]; simp [k0]))
                  clear ha han
                  go_wp2_with fail
                  refine (l1In_any _ _ _ _).mono ?_
                  rw [HI.out]
                  rintro e w' ⟨rfl, rfl⟩
                  go_wp2_with fail
                  go_ret
                  exact ⟨ret_bool HN.out.symm, rfl⟩
        · have HY := Lib.hid (tbOk_iff.2 ⟨⟨h0, h1⟩, HL.out, fun s hs => HA.out s (by omega)⟩)
          go_wp2_with fail
          go_ret
          exact ⟨ret_bool HY.out.symm, rfl⟩
    · have hne : ((xs.length : Int) != wrap64 (2 ^ n.toNat)) = true := by rw [hw4]; simpa using hl
      have HN := Lib.hid (tbOk_len hl)
      clear hl
      go_enter Try.func50, Try.ntmps50
      go_wp2_with fail
      refine (cfSize_any _ _).mono ?_
      rw [HE.out]
      rintro e w' ⟨rfl, rfl⟩
      go_wp2_with fail
      go_ret
      exact ⟨ret_bool HN.out.symm, rfl⟩

theorem ret_iib {a b c d : Int} {p q : Bool} (h : a = b) (h2 : c = d) (h3 : p = q) : Ending.returned (.tuple #[.int .i64 a, .int .i64 c, .bool p]) = .returned (.tuple #[.int .i64 b, .int .i64 d, .bool q]) := by rw [h, h2, h3]

theorem cfPair0_any (n : Int) (ad : Option Addr) (xs : List Int) (cap : Nat) (w : World) (hn : -9223372036854775808 ≤ n ∧ n ≤ 9223372036854775807) (hx : Rd w ad xs) (hw : ∀ k, k < xs.length → -9223372036854775808 ≤ nth xs k ∧ nth xs k ≤ 9223372036854775807) :
    Calls Try.prog 54 #[.int .i64 n, .slice ad xs.length cap, .int .i64 0] w fun e w' => e = .returned (.tuple #[.int .i64 (brX 0 n xs), .int .i64 (brY 0 n xs), .bool (brO 0 n xs)]) ∧ Below w.heap.size w w' := by
  cases ht : tbOk n xs
  · have HN := Lib.hid (br_no (kind := 0) ht)
    go_enter Try.func54, Try.ntmps54
    go_wp2_with fail
    refine (cfGood_any _ _ _ _ _ hn hx hw).mono ?_
    rw [ht]
    rintro e w1 ⟨rfl, rfl⟩
    go_wp2_with fail
    refine bodyPost_ret (v := .tuple #[.int .i64 0, .int .i64 0, .bool false]) (by simp [results, Try.results54, go_sem]) rfl ?_
    exact ⟨ret_iib HN.out.1.symm HN.out.2.1.symm HN.out.2.2.symm, Below.refl _ _⟩
  · have hp := tbOk_p ht
    have h16 := hp.small
    go_enter Try.func54, Try.ntmps54
    go_wp2_with fail
    refine (cfGood_any _ _ _ _ _ hn hx hw).mono ?_
    rw [ht]
    rintro e w1 ⟨rfl, rfl⟩
    have HT := Lib.hid ht
    clear ht
    go_wp2_with fail
    go_loopw [17] (fun i wr => ∃ k : Nat, k ≤ xs.length ∧ i = .int .i64 k ∧ (∀ a, a < k → ∀ b, b < xs.length → fkB 0 xs a b = false) ∧ Below w.heap.size w wr) (fun i _ => xs.length - (intOf i).toNat)
    case atStart => exact ⟨0, Nat.zero_le _, rfl, fun a ha => by omega, Below.refl _ _⟩
    case round =>
      obtain ⟨k, hk, rfl, hall, hb⟩ := hrel
      have HA := Lib.hid hall
      clear hall
      by_cases hlt : k < xs.length
      · go_wp2_with fail
        go_loopw [22] (fun i wi => ∃ j : Nat, j ≤ xs.length ∧ i = .int .i64 j ∧ (∀ b, b < j → fkB 0 xs k b = false) ∧ Below w.heap.size w wi) (fun i _ => xs.length - (intOf i).toNat)
        case atStart => exact ⟨0, Nat.zero_le _, rfl, fun a ha => by omega, hb⟩
        case round =>
          obtain ⟨j, hj, rfl, hall, hb⟩ := hrel
          have HB := Lib.hid hall
          clear hall
          by_cases hjl : j < xs.length
          · have W := brkW hp hlt hjl
            have hxr := hx.below hb
            cases h1 : fkB 0 xs k j
            · have HF := Lib.hid h1
              go_wp2_with fail
              refine (cfFails_any 0 n _ _ _ _ _ _ hxr hp hlt hjl (by omega)).mono ?_
              rw [h1]
              rintro e w2 ⟨rfl, hb2⟩
              have HBX := hb.trans (hb2.mono hb.size)
              clear h1
              go_wp2_with fail
              go_roundw
              case rel =>
                refine ⟨j + 1, by omega, by go_num, fun b hb => ?_, HBX⟩
                by_cases e : b = j
                · rw [e]; exact HF.out
                · exact HB.out b (by omega)
              case measure => simp [intOf]; omega
            · have HS := Lib.hid (br_some (kind := 0) HT.out hlt hjl HA.out HB.out h1)
              go_wp2_with fail
              refine (cfFails_any 0 n _ _ _ _ _ _ hxr hp hlt hjl (by omega)).mono ?_
              rw [h1]
              rintro e w2 ⟨rfl, hb2⟩
              have HBX := hb.trans (hb2.mono hb.size)
              clear h1
              go_wp2_with fail
              refine bodyPost_ret (v := .tuple #[.int .i64 k, .int .i64 j, .bool true]) (by simp [results, Try.results54, go_sem]) rfl ?_
              exact ⟨ret_iib HS.out.1.symm HS.out.2.1.symm HS.out.2.2.symm, HBX⟩
          · obtain rfl : j = xs.length := by omega
            go_wp2_with fail
            go_roundw
            case rel =>
              refine ⟨k + 1, by omega, by go_num, fun a ha b hb => ?_, hb⟩
              by_cases e : a = k
              · rw [e]; exact HB.out b hb
              · exact HA.out a (by omega) b hb
            case measure => simp [intOf]; omega
      · have HN := Lib.hid (br_none (kind := 0) (n := n) (xs := xs) (fun a ha b hb => HA.out a (by omega) b hb))
        go_wp2_with fail
        refine bodyPost_ret (v := .tuple #[.int .i64 0, .int .i64 0, .bool false]) (by simp [results, Try.results54, go_sem]) rfl ?_
        exact ⟨ret_iib HN.out.1.symm HN.out.2.1.symm HN.out.2.2.symm, hb⟩

theorem sShrinkF_any (n : Int) (ad : Option Addr) (xs : List Int) (cap : Nat) (w : World) (hn : -9223372036854775808 ≤ n ∧ n ≤ 9223372036854775807) (hx : Rd w ad xs) (hw : ∀ k, k < xs.length → -9223372036854775808 ≤ nth xs k ∧ nth xs k ≤ 9223372036854775807) :
    Calls Try.prog 29 #[.int .i64 n, .slice ad xs.length cap] w fun e w' => e = .returned (.tuple #[.int .i64 (brX 0 n xs), .int .i64 (brY 0 n xs), .bool (brO 0 n xs)]) ∧ Below w.heap.size w w' := by
  go_enter Try.func29, Try.ntmps29
  go_wp2_with fail
  refine (cfPair0_any _ _ _ _ _ hn hx hw).mono ?_
  rintro e w1 ⟨rfl, hb⟩
  go_wp2_with fail
  refine bodyPost_ret (v := .tuple #[.int .i64 (brX 0 n xs), .int .i64 (brY 0 n xs), .bool (brO 0 n xs)]) (by simp [results, Try.results29, go_sem]) rfl ?_
  exact ⟨rfl, hb⟩

theorem assert_same {P : Program} {t xT : TypeId} {fs : Array Field} (hu : P.underlying t = some (.struct fs)) (v : Value) (w : World) : (Instr.typeAssert (.iface t v) xT t true).run P w = .ok (.tuple #[v, .bool true]) w := by
  simp [Instr.typeAssert, run_underlying hu, go_sem, Result.andThen]
theorem assert_other {P : Program} {t t' xT : TypeId} {fs : Array Field} {z : Value} (hu : P.underlying t' = some (.struct fs)) (hz : (P.info? t').map (·.zero) = some (some z)) (hne : t ≠ t') (v : Value) (w : World) : (Instr.typeAssert (.iface t v) xT t' true).run P w = .ok (.tuple #[z, .bool false]) w := by
  obtain ⟨j, hj, hz'⟩ := Option.map_eq_some_iff.1 hz
  simp [Instr.typeAssert, run_underlying hu, go_sem, Result.andThen, hne, zeroValue, typeInfo, hj, hz']

theorem speaks_any (t : TypeId) (a b : Nat) (w : World) {v : Bool} (h : (bits .andNot .i64 (b : Int) (a : Int) == 0) = v) (ht : t = 56 ∨ t = 57 ∨ t = 58 ∨ t = 59) :
    Calls Try.prog 65 #[.iface t (.agg #[]), .int .i64 a, .int .i64 b] w fun e w' => e = .returned (.bool (if t = 56 ∨ t = 58 then v else true)) ∧ w = w' := by
  have H := Lib.hid h
  have us : Try.prog.underlying 56 = some (.struct #[]) := by kernel_rfl
  have uo : Try.prog.underlying 58 = some (.struct #[]) := by kernel_rfl
  have zs : (Try.prog.info? 56).map (·.zero) = some (some (.agg #[])) := by kernel_rfl
  have zo : (Try.prog.info? 58).map (·.zero) = some (some (.agg #[])) := by kernel_rfl
  rcases ht with rfl | rfl | rfl | rfl
  · have A1 := fun W : World => assert_same (xT := 67) us (.agg #[]) W
    have A2 := fun W : World => assert_other (t := 56) (xT := 67) uo zo (by decide) (.agg #[]) W
    go_enter Try.func65, Try.ntmps65
    go_wp2_with fail
    go_ret
    exact ⟨ret_bool rfl, rfl⟩
  · have A1 := fun W : World => assert_other (t := 57) (xT := 67) us zs (by decide) (.agg #[]) W
    have A2 := fun W : World => assert_other (t := 57) (xT := 67) uo zo (by decide) (.agg #[]) W
    go_enter Try.func65, Try.ntmps65
    go_wp2_with fail
    go_ret
    exact ⟨rfl, rfl⟩
  · have A1 := fun W : World => assert_other (t := 58) (xT := 67) us zs (by decide) (.agg #[]) W
    have A2 := fun W : World => assert_same (xT := 67) uo (.agg #[]) W
    go_enter Try.func65, Try.ntmps65
    go_wp2_with fail
    go_ret
    exact ⟨ret_bool rfl, rfl⟩
  · have A1 := fun W : World => assert_other (t := 59) (xT := 67) us zs (by decide) (.agg #[]) W
    have A2 := fun W : World => assert_other (t := 59) (xT := 67) uo zo (by decide) (.agg #[]) W
    go_enter Try.func65, Try.ntmps65
    go_wp2_with fail
    go_ret
    exact ⟨rfl, rfl⟩

theorem brkShr_any (n : Int) (ad : Option Addr) (xs : List Int) (cap : Nat) (a b : Nat) (w : World) (hx : Rd w ad xs) (hp : TbP n xs) (ha : a < xs.length) (hb : b < xs.length) :
    Calls Try.prog 82 #[.agg #[], .int .i64 a, .int .i64 b, .slice ad xs.length cap] w fun e w' => e = .returned (.bool (sub ((nth xs a).toNat &&& b) (nth xs b).toNat != 0)) ∧ Below w.heap.size w w' := by
  have W := brkW hp ha hb
  have hab := hp.or ha hb
  have la := hp.lt ha
  have lb := hp.lt hb
  have pa := hp.pos a ha
  have pb := hp.pos b hb
  have ho : (nth xs a).toNat ||| (nth xs b).toNat < xs.length := hp.or la lb
  have hx1 := hx.alloc (.cells #[] 56)
  obtain ⟨bk, off, rfl, hbl, ca⟩ := hx1.cell a ha
  obtain ⟨b1, off1, e1, hbl1, cb⟩ := hx1.cell b hb
  simp only [Option.some.injEq, Addr.mk.injEq, and_true] at e1
  obtain ⟨rfl, rfl⟩ := e1
  obtain ⟨b1, off1, e1, hbl1, cab⟩ := hx1.cell _ hab
  simp only [Option.some.injEq, Addr.mk.injEq, and_true] at e1
  obtain ⟨rfl, rfl⟩ := e1
  obtain ⟨b1, off1, e1, hbl1, co⟩ := hx1.cell _ ho
  simp only [Option.some.injEq, Addr.mk.injEq, and_true] at e1
  obtain ⟨rfl, rfl⟩ := e1
  have hlen := hp.small
  have W1 := W.part
  have W2 := W.shr
  have W3 := W.grw
  have W4 := W.has
  have W5 := W.out
  have W6 := W.ors
  have W7 := W.orc
  clear W
  cases h0 : (sub ((nth xs a).toNat &&& b) (nth xs b).toNat != 0)
  all_goals
    rw [h0] at W2
    have HF : Hid ((sub ((nth xs a).toNat &&& b) (nth xs b).toNat != 0) = (sub ((nth xs a).toNat &&& b) (nth xs b).toNat != 0)) := rfl
    have H0 := Lib.hid h0
    clear W1 W3 W4 W5 W6 W7
    clear h0
    go_enter Try.func82, Try.ntmps82
    go_wp2_with fail
    go_quiet (fail)
    go_wp2_with fail
    go_ret
    exact ⟨ret_bool rfl, (Below.refl _ _).alloc (Nat.le_refl _) _ |>.trans (Joins.below_draws _ _ _)⟩

theorem ret_bb {a b c d : Bool} (h : a = b) (h2 : c = d) : Ending.returned (.tuple #[.bool a, .bool c]) = .returned (.tuple #[.bool b, .bool d]) := by rw [h, h2]
theorem ret_ib {a b : Int} {c d : Bool} (h : a = b) (h2 : c = d) : Ending.returned (.tuple #[.int .i64 a, .bool c]) = .returned (.tuple #[.int .i64 b, .bool d]) := by rw [h, h2]

theorem iIsTab_any (n : Int) (a : Option Addr) (xs : List Int) (cap : Nat) (w : World) (hn : -9223372036854775808 ≤ n ∧ n ≤ 9223372036854775807) (hx : Rd w a xs) (hw : ∀ k, k < xs.length → -9223372036854775808 ≤ nth xs k ∧ nth xs k ≤ 9223372036854775807) :
    Calls Try.prog 20 #[.int .i64 n, .slice a xs.length cap] w fun e w' => e = .returned (.tuple #[.bool (tbOk n xs), .bool (inB n 0 4)]) ∧ w = w' := by
  have hlen := hx.len
  by_cases h0 : 0 ≤ n
  · by_cases h1 : n ≤ 4
    · have HE : Hid (inB n 0 4 = true) := inB_iff.2 ⟨h0, h1⟩
      have ⟨hw4, hp1, hp16⟩ := wrap_pow4 h0 h1
      by_cases hl : (xs.length : Int) = 2 ^ n.toNat
      · have hne : ((xs.length : Int) != wrap64 (2 ^ n.toNat)) = false := by rw [hw4, hl]; simp
        have hl16 : xs.length ≤ 16 := by omega
        have HL := Lib.hid hl
        clear hl hw4 hp1 hp16
        go_enter Try.func20, Try.ntmps20
        go_wp2_with fail
        go_loop [21] (fun i => ∃ k : Nat, k ≤ xs.length ∧ i = .int .i64 k ∧ ∀ s, s < k → cellOk xs s = true) (fun i => xs.length - (intOf i).toNat)
        case atStart => exact ⟨0, Nat.zero_le _, rfl, fun s hs => by omega⟩
        case round =>
          obtain ⟨k, hk, rfl, hall⟩ := hrel
          have HA := Lib.hid hall
          clear hall
          by_cases hlt : k < xs.length
          · obtain ⟨b, off, rfl, hbl, hc⟩ := hx.cell k hlt
            have ⟨g1, g2⟩ := hw k hlt
            have han := andNot_zero (s := k) g1 g2 (by omega)
            cases ha : (decide (0 ≤ nth xs k) && (sub (nth xs k).toNat k == 0))
            · have hb : (bits .andNot .i64 (nth xs k) (k : Int) != 0) = true := by rw [bne, han, ha]; rfl
              have HN := Lib.hid (tbOk_cell (n := n) hlt (show cellOk xs k = false by simp only [cellOk, ha]; rfl))
              clear ha han
              go_wp2_with fail
              go_ret2
              exact ⟨ret_bb HN.out.symm HE.out.symm, rfl⟩
            · have hb : (bits .andNot .i64 (nth xs k) (k : Int) != 0) = false := by rw [bne, han, ha]; rfl
              cases hz : (nth xs k == 0)
              · have HO : Hid (cellOk xs k = true) := by simp only [Hid, cellOk, ha, hz]; rfl
                clear ha han
                go_wp2_with fail
                go_round
                case rel =>
                  refine ⟨k + 1, by omega, by go_num, fun s hs => ?_⟩
                  by_cases e : s = k
                  · rw [e]; exact HO.out
                  · exact HA.out s (by omega)
                case measure => simp [intOf]; omega
              · by_cases k0 : k = 0
                · have hk0 : ((k : Int) != 0) = false := by rw [k0]; rfl
                  have HO : Hid (cellOk xs k = true) := by simp only [Hid, cellOk, ha, hz]; simp [k0]
                  clear ha han k0
                  go_wp2_with fail
                  go_round
                  case rel =>
                    refine ⟨k + 1, by omega, by go_num, fun s hs => ?_⟩
                    by_cases e : s = k
                    · rw [e]; exact HO.out
                    · exact HA.out s (by omega)
                  case measure => simp [intOf]; omega
                · have hk0 : ((k : Int) != 0) = true := by simp [k0]
                  have HN := Lib.hid (tbOk_cell (n := n) hlt (show cellOk xs k = false by simp only [cellOk, ha, hz]; simp [k0]))
                  clear ha han
                  go_wp2_with fail
                  go_ret2
                  exact ⟨ret_bb HN.out.symm HE.out.symm, rfl⟩
          · have HY := Lib.hid (tbOk_iff.2 ⟨⟨h0, h1⟩, HL.out, fun s hs => HA.out s (by omega)⟩)
            go_wp2_with fail
            go_ret2
            exact ⟨ret_bb HY.out.symm HE.out.symm, rfl⟩
      · have hne : ((xs.length : Int) != wrap64 (2 ^ n.toNat)) = true := by rw [hw4]; simpa using hl
        have HN := Lib.hid (tbOk_len hl)
        clear hl
        go_enter Try.func20, Try.ntmps20
        go_wp2_with fail
        go_ret2
        exact ⟨ret_bb HN.out.symm HE.out.symm, rfl⟩
    · have HE : Hid (inB n 0 4 = false) := inB_no.2 (.inr (by omega))
      have HN := Lib.hid (tbOk_size (xs := xs) HE.out)
      go_enter Try.func20, Try.ntmps20
      go_wp2_with fail
      go_ret2
      exact ⟨ret_bb HN.out.symm HE.out.symm, rfl⟩
  · have HE : Hid (inB n 0 4 = false) := inB_no.2 (.inl (by omega))
    have HN := Lib.hid (tbOk_size (xs := xs) HE.out)
    go_enter Try.func20, Try.ntmps20
    go_wp2_with fail
    go_ret2
    exact ⟨ret_bb HN.out.symm HE.out.symm, rfl⟩

theorem firstBreak0_any (n : Int) (ad : Option Addr) (xs : List Int) (cap : Nat) (w : World) (hn : -9223372036854775808 ≤ n ∧ n ≤ 9223372036854775807) (hx : Rd w ad xs) (hw : ∀ k, k < xs.length → -9223372036854775808 ≤ nth xs k ∧ nth xs k ≤ 9223372036854775807) :
    Calls Try.prog 55 #[.int .i64 n, .slice ad xs.length cap, .iface 56 (.agg #[])] w fun e w' => e = .returned (.tuple #[.int .i64 (brX 0 n xs), .int .i64 (brY 0 n xs), .bool (brO 0 n xs)]) ∧ Below w.heap.size w w' := by
  cases ht : tbOk n xs
  · have HN := Lib.hid (br_no (kind := 0) ht)
    go_enter Try.func55, Try.ntmps55
    go_wp2_with fail
    refine (iIsTab_any _ _ _ _ _ hn hx hw).mono ?_
    rw [ht]
    rintro e w1 ⟨rfl, rfl⟩
    go_wp2_with fail
    refine bodyPost_ret (v := .tuple #[.int .i64 0, .int .i64 0, .bool false]) (by simp [results, Try.results55, go_sem]) rfl ?_
    exact ⟨ret_iib HN.out.1.symm HN.out.2.1.symm HN.out.2.2.symm, Below.refl _ _⟩
  · have hp := tbOk_p ht
    have h16 := hp.small
    go_enter Try.func55, Try.ntmps55
    go_wp2_with fail
    refine (iIsTab_any _ _ _ _ _ hn hx hw).mono ?_
    rw [ht]
    rintro e w1 ⟨rfl, rfl⟩
    have HT := Lib.hid ht
    clear ht
    go_wp2_with fail
    go_loopw [23] (fun i wr => ∃ k : Nat, k ≤ xs.length ∧ i = .int .i64 k ∧ (∀ a, a < k → ∀ b, b < xs.length → fkB 0 xs a b = false) ∧ Below w.heap.size w wr) (fun i _ => xs.length - (intOf i).toNat)
    case atStart => exact ⟨0, Nat.zero_le _, rfl, fun a ha => by omega, Below.refl _ _⟩
    case round =>
      obtain ⟨k, hk, rfl, hall, hb⟩ := hrel
      have HA := Lib.hid hall
      clear hall
      by_cases hlt : k < xs.length
      · go_wp2_with fail
        go_loopw [28] (fun i wi => ∃ j : Nat, j ≤ xs.length ∧ i = .int .i64 j ∧ (∀ b, b < j → fkB 0 xs k b = false) ∧ Below w.heap.size w wi) (fun i _ => xs.length - (intOf i).toNat)
        case atStart => exact ⟨0, Nat.zero_le _, rfl, fun a ha => by omega, hb⟩
        case round =>
          obtain ⟨j, hj, rfl, hall, hb⟩ := hrel
          have HB := Lib.hid hall
          clear hall
          by_cases hjl : j < xs.length
          · have W := brkW hp hlt hjl
            have hxr := hx.below hb
            cases h1 : (sub j k == 0)
            · have e1 := W.part.trans h1
              have HF : Hid (fkB 0 xs k j = false) := by simp only [Hid, fkB, h1]; rfl
              have HBX := hb
              clear W h1
              go_wp2_with fail
              refine (speaks_any _ _ _ _ e1 (.inl rfl)).mono ?_
              rw [if_pos (by decide)]
              rintro e w' ⟨rfl, rfl⟩
              clear e1
              go_wp2_with fail
              go_roundw
              case rel =>
                refine ⟨j + 1, by omega, by go_num, fun b hb => ?_, HBX⟩
                by_cases e : b = j
                · rw [e]; exact HF.out
                · exact HB.out b (by omega)
              case measure => simp [intOf]; omega
            · have e1 := W.part.trans h1
              clear W
              cases h2 : (sub ((nth xs k).toNat &&& j) (nth xs j).toNat != 0)
              · have HV : fkB 0 xs k j = false := by simp only [fkB, h1, Bool.true_and]; exact h2
                have HF := Lib.hid HV
                clear HV h1
                go_wp2_with fail
                refine (speaks_any _ _ _ _ e1 (.inl rfl)).mono ?_
                rw [if_pos (by decide)]
                rintro e w' ⟨rfl, rfl⟩
                clear e1
                go_wp2_with fail
                refine (brkShr_any n _ _ _ _ _ _ hxr hp hlt hjl).mono ?_
                rw [h2]
                rintro e w2 ⟨rfl, hb2⟩
                have HBX := hb.trans (hb2.mono hb.size)
                clear h2
                go_wp2_with fail
                go_roundw
                case rel =>
                  refine ⟨j + 1, by omega, by go_num, fun b hb => ?_, HBX⟩
                  by_cases e : b = j
                  · rw [e]; exact HF.out
                  · exact HB.out b (by omega)
                case measure => simp [intOf]; omega
              · have HV : fkB 0 xs k j = true := by simp only [fkB, h1, Bool.true_and]; exact h2
                have HS := Lib.hid (br_some (kind := 0) HT.out hlt hjl HA.out HB.out HV)
                clear HV h1
                go_wp2_with fail
                refine (speaks_any _ _ _ _ e1 (.inl rfl)).mono ?_
                rw [if_pos (by decide)]
                rintro e w' ⟨rfl, rfl⟩
                clear e1
                go_wp2_with fail
                refine (brkShr_any n _ _ _ _ _ _ hxr hp hlt hjl).mono ?_
                rw [h2]
                rintro e w2 ⟨rfl, hb2⟩
                have HBX := hb.trans (hb2.mono hb.size)
                clear h2
                go_wp2_with fail
                refine bodyPost_ret (v := .tuple #[.int .i64 k, .int .i64 j, .bool true]) (by simp [results, Try.results55, go_sem]) rfl ?_
                exact ⟨ret_iib HS.out.1.symm HS.out.2.1.symm HS.out.2.2.symm, HBX⟩
          · obtain rfl : j = xs.length := by omega
            go_wp2_with fail
            go_roundw
            case rel =>
              refine ⟨k + 1, by omega, by go_num, fun a ha b hb => ?_, hb⟩
              by_cases e : a = k
              · rw [e]; exact HB.out b hb
              · exact HA.out a (by omega) b hb
            case measure => simp [intOf]; omega
      · have HN := Lib.hid (br_none (kind := 0) (n := n) (xs := xs) (fun a ha b hb => HA.out a (by omega) b hb))
        go_wp2_with fail
        refine bodyPost_ret (v := .tuple #[.int .i64 0, .int .i64 0, .bool false]) (by simp [results, Try.results55, go_sem]) rfl ?_
        exact ⟨ret_iib HN.out.1.symm HN.out.2.1.symm HN.out.2.2.symm, hb⟩

theorem iShrinkF_any (n : Int) (ad : Option Addr) (xs : List Int) (cap : Nat) (w : World) (hn : -9223372036854775808 ≤ n ∧ n ≤ 9223372036854775807) (hx : Rd w ad xs) (hw : ∀ k, k < xs.length → -9223372036854775808 ≤ nth xs k ∧ nth xs k ≤ 9223372036854775807) :
    Calls Try.prog 30 #[.int .i64 n, .slice ad xs.length cap] w fun e w' => e = .returned (.tuple #[.int .i64 (brX 0 n xs), .int .i64 (brY 0 n xs), .bool (brO 0 n xs)]) ∧ Below w.heap.size w w' := by
  go_enter Try.func30, Try.ntmps30
  go_wp2_with fail
  refine (firstBreak0_any _ _ _ _ _ hn hx hw).mono ?_
  rintro e w1 ⟨rfl, hb⟩
  go_wp2_with fail
  refine bodyPost_ret (v := .tuple #[.int .i64 (brX 0 n xs), .int .i64 (brY 0 n xs), .bool (brO 0 n xs)]) (by simp [results, Try.results30, go_sem]) rfl ?_
  exact ⟨rfl, hb⟩

theorem walk (i0 : Int) (a1 : Option Addr) (xs1 : List Int) (cap1 : Nat) (w : World) (hi0 : -9223372036854775808 ≤ i0 ∧ i0 ≤ 9223372036854775807) (hx1 : Rd w a1 xs1) (hw1 : ∀ k, k < xs1.length → -9223372036854775808 ≤ nth xs1 k ∧ nth xs1 k ≤ 9223372036854775807) :
    Calls Try.prog 7 #[.int .i64 i0, .slice a1 xs1.length cap1] w fun e w' => e = .returned (.bool true) ∧ Below w.heap.size w w' := by
  by_cases hs1 : 1048576 < (xs1.length : Int)
  · go_enter Try.func7, Try.ntmps7
    go_wp2_with fail
    go_ret
    exact ⟨rfl, (by repeat (first | exact Below.refl _ _ | assumption | refine Below.alloc ?_ (by first | exact Nat.le_refl _ | (simp only [World.size_alloc, World.size_setCell, World.size_drew]; omega) | omega) _ | refine Below.setCell ?_ (by first | exact Nat.le_refl _ | (simp only [World.size_alloc, World.size_setCell, World.size_drew]; omega) | omega) _ | refine Below.drew ?_))⟩
  go_enter Try.func7, Try.ntmps7
  go_wp2_with fail
  refine (toIntS_any _ _ _ _ (hx1.below (Below.refl _ _)) (by omega)).mono ?_
  rintro e w1 ⟨pT1, qT1, rfl, ho, hb⟩
  have ht : Below w.heap.size w w1 := Below.trans (by repeat (first | exact Below.refl _ _ | assumption | refine Below.alloc ?_ (by first | exact Nat.le_refl _ | (simp only [World.size_alloc, World.size_setCell, World.size_drew]; omega) | omega) _ | refine Below.setCell ?_ (by first | exact Nat.le_refl _ | (simp only [World.size_alloc, World.size_setCell, World.size_drew]; omega) | omega) _ | refine Below.drew ?_)) (hb.mono (by first | (simp only [World.size_alloc, World.size_setCell, World.size_drew]; omega) | omega))
  have z1 : w.heap.size ≤ w1.heap.size := ht.size
  have bw1 : Below w.heap.size w w1 := ht
  have T1_1 := ho
  have UT1 := T1_1.cut (Nat.le_refl _)
  clear ho
  clear ht hb
  go_wp2_with fail
  refine (sShrinkF_any _ _ _ _ _ hi0 (T1_1.rd) hw1).mono ?_
  rintro e w2 ⟨rfl, hb⟩
  have ht : Below w1.heap.size w1 w2 := hb
  have z2 : w1.heap.size ≤ w2.heap.size := ht.size
  have bw2 : Below w.heap.size w w2 := bw1.trans (ht.mono bw1.size)
  have T1_2 := T1_1.below ht (Nat.le_refl _)
  clear T1_1
  clear ht hb
  go_wp2_with fail
  clear T1_2 UT1
  refine (toIntS_any _ _ _ _ (hx1.below bw2) (by omega)).mono ?_
  rintro e w3 ⟨pX1, qX1, rfl, ho, hb⟩
  have ht : Below w2.heap.size w2 w3 := hb
  have z3 : w2.heap.size ≤ w3.heap.size := ht.size
  have bw3 : Below w.heap.size w w3 := bw2.trans (ht.mono bw2.size)
  have X1_3 := ho
  have UX1 := X1_3.cut (Nat.le_refl _)
  clear ho
  clear ht hb
  go_wp2_with fail
  refine (iShrinkF_any _ _ _ _ _ hi0 (X1_3.rd) hw1).mono ?_
  rintro e w4 ⟨rfl, hb⟩
  have ht : Below w3.heap.size w3 w4 := hb
  have z4 : w3.heap.size ≤ w4.heap.size := ht.size
  have bw4 : Below w.heap.size w w4 := bw3.trans (ht.mono bw3.size)
  have X1_4 := X1_3.below ht (Nat.le_refl _)
  clear X1_3
  clear ht hb
  go_wp2_with fail
  refine (toIntS_any _ _ _ _ (hx1.below bw4) (by omega)).mono ?_
  rintro e w5 ⟨pY1, qY1, rfl, ho, hb⟩
  have ht : Below w4.heap.size w4 w5 := hb
  have z5 : w4.heap.size ≤ w5.heap.size := ht.size
  have bw5 : Below w.heap.size w w5 := bw4.trans (ht.mono bw4.size)
  have X1_5 := X1_4.below ht (Nat.le_refl _)
  clear X1_4
  have Y1_5 := ho
  have UY1 := Y1_5.cut (Nat.le_refl _)
  clear ho
  clear ht hb
  go_wp2_with fail
  refine (eqIntS_any _ _ xs1 xs1 _ _ _ X1_5.rd Y1_5.rd).mono ?_
  rw [eqL_self]
  rintro e w6 ⟨rfl, hb⟩
  have ht : Below w5.heap.size w5 w6 := hb
  have z6 : w5.heap.size ≤ w6.heap.size := ht.size
  have bw6 : Below w.heap.size w w6 := bw5.trans (ht.mono bw5.size)
  have X1_6 := X1_5.below ht (Nat.le_refl _)
  have Y1_6 := Y1_5.below ht (Nat.le_refl _)
  clear X1_5 Y1_5
  clear ht hb
  go_wp2_with fail
  clear Y1_6 UY1
  go_ret
  exact ⟨rfl, bw6⟩

theorem rd_of_trod {H : Type} {enc : TypeId × Value → H} {W : World} {fuel : Nat} {c : Value} {y : DataW H × List MemPlace}
    (h : DataW.trod enc Try.prog W 0 (fun _ => true) true fuel 22 [c] = some y) : ∃ (a : Option Addr) (xs : List Int) (cap : Nat), c = .slice a xs.length cap ∧ Rd W a xs ∧ ∀ k, k < xs.length → (Lit.int .i64 (nth xs k)).wf = true := by
  rcases Go.ChangeShapes.open_ints Try.underlying22 Try.underlying3 (by kernel_rfl) h with ⟨hcs, _⟩ | ⟨x, len, cap, zs, hcs, _, hl, hm, hz, _, hcell, hwf⟩
  · simp only [List.cons.injEq, and_true] at hcs
    exact ⟨none, [], 0, hcs, ⟨by simp, fun k hk => by simp at hk⟩, fun k hk => by simp at hk⟩
  · simp only [List.cons.injEq, and_true] at hcs
    simp only [if_true] at hz
    have hlen : (zs.take len).length = len := by rw [List.length_take]; omega
    have hn : ∀ k, k < len → nth (zs.take len) k = zs.getD k 0 := by
      intro k hk
      simp only [nth, List.getD_eq_getElem?_getD, List.getElem?_take, hk, if_true]
    refine ⟨some x, zs.take len, cap, by rw [hlen]; exact hcs, ⟨by rw [hlen]; unfold maxLen at hm; omega, fun k hk => ?_⟩, fun k hk => ?_⟩
    · rw [hlen] at hk
      obtain ⟨b, off, sp⟩ := x
      have h0 := hcell 0 (by omega)
      have hsp : sp = none := by simpa [Addr.add] using World.cell?_spot h0
      subst hsp
      have hk' := hcell k (by omega)
      rw [Addr.add_lit] at hk'
      exact ⟨b, off, rfl, World.block_lt_of_cell? _ _ h0, by rw [hk', hn k hk]⟩
    · rw [hlen] at hk
      rw [hn k hk]
      have hk2 : k < zs.length := by omega
      exact hwf _ (by rw [List.getD_eq_getElem?_getD, List.getElem?_eq_getElem hk2]; exact List.getElem_mem hk2)

theorem own : ownKnob Try.prog.godebug = none := by kernel_rfl
theorem laidOut : laidOutB Try.prog = true := by kernel_rfl
theorem wf_bd {n : Int} (h : (Lit.int .i64 n).wf = true) : -9223372036854775808 ≤ n ∧ n ≤ 9223372036854775807 := by
  simp [Lit.wf, IntKind.min, IntKind.max, IntKind.bits, IntKind.signed] at h
  omega

open Go.ChangeShapes Go.WideShapes Go.ChangeAt Go.RowKit in
set_option maxRecDepth 100000 in
theorem lifted (os : Os) (started : os.Started) (H : Type) (enc : TypeId × Value → H) :
    ReturnsInHanded {} Try.checked os 7 .any (Rows.fnExactShrinkFailsSpec.pre6 enc Try.prog Try.f7 Rows.fnExactShrinkFailsRow.domain false) (Rows.fnExactShrinkFailsSpec.post enc Try.prog Try.f7 false true false false) := by
  refine returnsInHanded_of_change (C := Try.checked) own started (by kernel_rfl) Try.func7
    (ChangeSpec.witness6 (enc := enc) (C := Try.checked) false ⟨#[], #[.int .i64 0, .slice none 0 0], []⟩ 8 (by kernel_rfl) (by kernel_rfl) (by kernel_rfl) (by kernel_rfl)) ?_
  intro W base args ds gs before hval0 hW hcnd _
  have hval : ∀ (j : Nat) t v, Try.f7.params[j]? = some t → args[j]? = some v → Value.okWide Try.prog W .any base t v := hval0
  have hW' := hW
  obtain ⟨p, q, hA0, hV, rfl, hfz, hnd⟩ := hW
  have hA : DataW.TrodAll enc Try.prog W 0 (fun _ => true) true Try.f7.params.toList args.toList ds p := hA0
  rw [Try.params7] at hA hval
  obtain ⟨v0, vs0, d0, ds0, p0, q0, hargs, rfl, rfl, h0, r0⟩ := trodAll_cons hA
  obtain ⟨v1, vs1, d1, ds1, p1, q1, rfl, rfl, rfl, h1, r1⟩ := trodAll_cons r0
  obtain ⟨rfl, rfl, rfl⟩ := trodAll_nil r1
  obtain rfl : args = #[v0, v1] := by cases args; simp_all
  obtain ⟨rfl, rfl⟩ := trodVars_none hV
  have lt0 : ∀ x ∈ p0, x.block < W.heap.size := by obtain ⟨m, hm⟩ := h0; exact DataW.trod_lt m _ _ _ hm
  have lt1 : ∀ x ∈ p1, x.block < W.heap.size := by obtain ⟨m, hm⟩ := h1; exact DataW.trod_lt m _ _ _ hm
  obtain ⟨i0, rfl, hd0, hp0, wf0⟩ := open_int Try.underlying3 (hval 0 3 v0 rfl rfl) h0
  obtain ⟨a1, len1, cap1, rfl⟩ := okWide_slice Try.underlying22 (hval 1 22 v1 rfl rfl)
  obtain ⟨a1, xs1, cap1, e1, rd1, wl1⟩ := (by obtain ⟨fu, hf⟩ := h1; simp only [Value.cells] at hf; exact rd_of_trod hf : ∃ (a : Option Addr) (xs : List Int) (cap : Nat), Value.slice a1 len1 cap1 = .slice a xs.length cap ∧ Rd W a xs ∧ ∀ k, k < xs.length → (Lit.int .i64 (nth xs k)).wf = true)
  simp only [Value.slice.injEq] at e1
  obtain ⟨rfl, rfl, rfl⟩ := e1
  clear hA0 hval0
  refine (walk i0 a1 xs1 cap1 W (wf_bd wf0) rd1 (fun k hk => wf_bd (wl1 k hk))).mono fun e W' ⟨he, bel⟩ => ?_
  subst he
  exact ⟨_, rfl, _, _, _, [], _, [], hW', trodAll_mk1 (shut_bool Try.underlying4 _), (trodAll_cons_mk (Below.trod laidOut (by kernel_rfl) (of_decide_eq_true (by kernel_rfl)) h0 bel lt0) (trodAll_cons_mk (Below.trod laidOut (by kernel_rfl) (of_decide_eq_true (by kernel_rfl)) h1 bel lt1) trodAll_mk0)), rfl, bel.frame _, fun h => by cases h⟩
theorem proved : Rows.FnExactShrinkFailsSaid :=
  OpenClaim.holds_of_wide 7 Try.f7 rfl rfl rfl rfl rfl rfl rfl ⟨rfl, rfl, rfl, rfl, rfl⟩ rfl rfl rfl rfl rfl (by kernel_rfl) Try.func7 (by kernel_rfl)
    (of_decide_eq_true (by kernel_rfl)) (by unfold Func.isWrapper; first | (rw [if_pos (by decide +kernel)]; kernel_rfl) | (rw [if_neg (by decide +kernel)]; exact ⟨rfl, rfl⟩))
    (fun os started H enc _ => lifted os started H enc)

end Go.Proofs.Ytpdnlcgclopjmaa.shrinkFails
