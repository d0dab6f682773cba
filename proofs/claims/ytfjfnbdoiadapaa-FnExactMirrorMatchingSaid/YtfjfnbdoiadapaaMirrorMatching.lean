/- PROVED: the law FnExactMirrorMatching returns true for every input, and each of its arguments reads afterwards as before. No conditions. -/
import Derived.Test.YtfjfnbdoiadapaaRows
import Derived.WalkKit
import Derived.WalkSpells
import Derived.WalkLawsBesides
import Derived.Deep.QuietTactic
import Derived.BigQuiet
import Derived.ProofKit
import Derived.OpenShut
import Derived.ShutString
import Derived.ChangeOld
import Derived.Below
import Derived.Lib.SmallJoins
import Derived.Lib.Hide
import Derived.Maps.AppendAt
import Derived.Deep.AppendLies
import Derived.Deep.RegionHeld3
namespace Go.Proofs.Ytfjfnbdoiadapaa.mirrorMatching
open Go Go.RowKit
set_option linter.unusedVariables false
set_option linter.unusedSimpArgs false
set_option maxHeartbeats 400000


/-- a number of a list; a plain function, which the walk leaves alone -/
def nth (xs : List Int) (k : Nat) : Int := xs.getD k 0
theorem nth_get (xs : List Int) (k : Nat) (h : k < xs.length) : nth xs k = xs[k] := by simp [nth, h]
/-- the slice at an address reads as a list -/
structure Rd (w : World) (a : Option Addr) (xs : List Int) : Prop where
  len : xs.length ≤ 9223372036854775807
  cell : ∀ k, k < xs.length → ∃ b off, a = some ⟨b, off, none⟩ ∧ b < w.heap.size ∧ w.cell? ⟨b, off + k, none⟩ = some (.int .i64 (nth xs k))
theorem Rd.below {w w' : World} {a : Option Addr} {xs : List Int} (h : Rd w a xs) (hb : Below w.heap.size w w') : Rd w' a xs :=
  ⟨h.len, fun k hk => by
    obtain ⟨b, off, e, hl, hc⟩ := h.cell k hk
    exact ⟨b, off, e, Nat.lt_of_lt_of_le hl hb.size, (hb.cell (World.block_lt_of_cell? _ _ hc)).trans hc⟩⟩
theorem Rd.mid {w w1 w2 : World} {a : Option Addr} {xs : List Int} {B : Nat} (h : Rd w a xs) (hb : Below B w1 w2) (hB : w.heap.size ≤ B) (h1 : Rd w1 a xs) : Rd w2 a xs :=
  ⟨h.len, fun k hk => by
    obtain ⟨b, off, e, hl, hc⟩ := h.cell k hk
    obtain ⟨b', off', e', hl', hc'⟩ := h1.cell k hk
    rw [e] at e'
    simp only [Option.some.injEq, Addr.mk.injEq, and_true] at e'
    obtain ⟨rfl, rfl⟩ := e'
    exact ⟨b, off, e, Nat.lt_of_lt_of_le hl' hb.size, (hb.cell (by show b < B; omega)).trans hc'⟩⟩
theorem Rd.alloc {w : World} {a : Option Addr} {xs : List Int} (h : Rd w a xs) (o : Obj) : Rd (w.alloc o) a xs :=
  h.below ((Below.refl _ _).alloc (Nat.le_refl _) o)
theorem Rd.same {w w' : World} {a : Option Addr} {xs : List Int} (h : Rd w a xs) (hs : w.heap.size ≤ w'.heap.size)
    (hb : ∀ b off, a = some ⟨b, off, none⟩ → w'.heap[b]? = w.heap[b]?) : Rd w' a xs :=
  ⟨h.len, fun k hk => by
    obtain ⟨b, off, e, hl, hc⟩ := h.cell k hk
    exact ⟨b, off, e, Nat.lt_of_lt_of_le hl hs, (World.cell?_of_block (w := w) (a := ⟨b, off + k, none⟩) (hb b off e)).trans hc⟩⟩
/-- a slice value that owns the row of these integers, in a block from B on -/
def OwnI (w : World) (B : Nat) (v : Value) (xs : List Int) : Prop := w.ownsRow B 3 1 v xs.length (xs.map (Value.int .i64))
theorem OwnI.form {w : World} {B : Nat} {v : Value} {xs : List Int} (h : OwnI w B v xs) : ∃ a cap, v = .slice a xs.length cap := by
  rcases h.2 with ⟨rfl, h0⟩ | ⟨g, cap, cur, rfl, _⟩
  · exact ⟨none, 0, by rw [h0]⟩
  · exact ⟨_, _, rfl⟩
theorem OwnI.rd {w : World} {B n cap : Nat} {a : Option Addr} {xs : List Int} (h : OwnI w B (.slice a n cap) xs) : Rd w a xs := by
  rcases h.2 with ⟨e, h0⟩ | ⟨g, cap', cur, e, hb, hg, hn, hm, hs, ht⟩
  · exact ⟨by omega, fun k hk => by omega⟩
  · simp only [Value.slice.injEq] at e
    obtain ⟨rfl, rfl, rfl⟩ := e
    refine ⟨by unfold maxLen at hm; omega, fun k hk => ⟨g, 0, rfl, (Array.getElem?_eq_some_iff.1 hg).1, ?_⟩⟩
    have := World.ownsRow.cellAt h k (by omega)
    rw [Nat.zero_add, this]
    simp [nth, hk]
theorem OwnI.blk {w : World} {B n cap : Nat} {a : Option Addr} {xs : List Int} (h : OwnI w B (.slice a n cap) xs) : ∀ b off s, a = some ⟨b, off, s⟩ → B ≤ b ∧ b < w.heap.size := by
  intro b off s e
  subst e
  exact World.ownsRow.lt h b rfl
theorem OwnI.kept {w w' : World} {B : Nat} {v : Value} {xs : List Int} {row : Option Nat} (h : OwnI w B v xs) (hg : w.grownBy w' row) (hne : v.ownBlock = none ∨ v.ownBlock ≠ row) : OwnI w' B v xs := World.ownsRow.kept h hg hne
theorem OwnI.mono {w : World} {B B' : Nat} {v : Value} {xs : List Int} (h : OwnI w B v xs) (hB : B' ≤ B) : OwnI w B' v xs := by
  refine ⟨h.1, ?_⟩
  rcases h.2 with hn | ⟨g, cap, cur, e, hb, rest⟩
  · exact .inl hn
  · exact .inr ⟨g, cap, cur, e, by omega, rest⟩
theorem OwnI.below {w w' : World} {B B' : Nat} {v : Value} {xs : List Int} (h : OwnI w B v xs) (hb : Below B' w w') (hB : w.heap.size ≤ B') : OwnI w' B v xs := by
  refine ⟨h.1, ?_⟩
  rcases h.2 with hn | ⟨g, cap, cur, e, hb', hg, rest⟩
  · exact .inl hn
  · refine .inr ⟨g, cap, cur, e, hb', ?_, rest⟩
    rw [hb.block g (by have := (Array.getElem?_eq_some_iff.1 hg).1; omega)]
    exact hg
theorem ret_bool {a b : Bool} (h : a = b) : Ending.returned (.bool a) = .returned (.bool b) := by rw [h]
theorem ret_int {a b : Int} (h : a = b) : Ending.returned (.int .i64 a) = .returned (.int .i64 b) := by rw [h]
theorem val_int {a b : Int} (h : a = b) : Value.int .i64 a = .int .i64 b := by rw [h]
theorem grown_below {w w' : World} {g : Nat} (h : w.grownBy w' (some g)) (B : Nat) (hB : B ≤ g) (hs : B ≤ w.heap.size) : Below B w w' :=
  ⟨h.os, h.tape, h.output, h.size, fun k hk => h.block k (by omega) (by intro e; simp only [Option.some.injEq] at e; omega)⟩
theorem below_grown {w w' : World} {B : Nat} (h : Below B w w') (hB : w.heap.size ≤ B) (row : Option Nat) : w.grownBy w' row :=
  ⟨h.os, h.tape, h.output, h.size, fun k hk _ => h.block k (by omega)⟩
theorem bcell {W w1 : World} (hb : Below W.heap.size W w1) : (∀ b o, b < W.heap.size → w1.cell? ⟨b, o, none⟩ = W.cell? ⟨b, o, none⟩) ∧ (∀ b o, b < W.heap.size → w1.frozen? ⟨b, o, none⟩ = W.frozen? ⟨b, o, none⟩) :=
  ⟨fun b o h => hb.cell (p := ⟨b, o, none⟩) h, fun b o h => hb.frozen (p := ⟨b, o, none⟩) h⟩
theorem infoInt : (Try.prog.info? 3).map (fun i => (i.zero, i.size, i.bytes)) = some (some (.int .i64 0), 1, 8) := by kernel_rfl
theorem OwnI.setBelow {w : World} {B : Nat} {v : Value} {xs : List Int} (h : OwnI w B v xs) {p : Addr} (hp : p.block < B) (u : Value) : OwnI (w.setCell p u) B v xs := ownsRow_setCell_below h hp u
theorem OwnI.alloc {w : World} {B : Nat} {v : Value} {xs : List Int} (h : OwnI w B v xs) (o : Obj) : OwnI (w.alloc o) B v xs := h.below ((Below.refl _ _).alloc (Nat.le_refl _) o) (Nat.le_refl _)
theorem Below.mono' {B B' : Nat} {w w' : World} (h : Below B w w') (hB : B' ≤ B) : Below B' w w' := h.mono hB
/-- a block that holds two cells -/
def Box2 (w : World) (b : Nat) (u v : Value) : Prop := b < w.heap.size ∧ w.cell? ⟨b, 0, none⟩ = some u ∧ w.cell? ⟨b, 1, none⟩ = some v
theorem Box2.below {w w' : World} {b : Nat} {u v : Value} (h : Box2 w b u v) (hb : Below w.heap.size w w') : Box2 w' b u v :=
  ⟨Nat.lt_of_lt_of_le h.1 hb.size, (hb.cell (p := ⟨b, 0, none⟩) h.1).trans h.2.1, (hb.cell (p := ⟨b, 1, none⟩) h.1).trans h.2.2⟩
theorem Box2.new (w : World) (u v : Value) (t : TypeId) : Box2 (w.alloc (.cells #[u, v] t)) w.heap.size u v :=
  ⟨by simp, by simp, by simp⟩
theorem Box2.kept {w w' : World} {b : Nat} {u v : Value} {row : Option Nat} (h : Box2 w b u v) (hg : w.grownBy w' row) (hne : some b ≠ row) : Box2 w' b u v :=
  ⟨Nat.lt_of_lt_of_le h.1 hg.size, hg.cell h.2.1 hne, hg.cell h.2.2 hne⟩
theorem OwnI.lt {w : World} {B : Nat} {v : Value} {xs : List Int} (h : OwnI w B v xs) : ∀ b, v.ownBlock = some b → B ≤ b ∧ b < w.heap.size := World.ownsRow.lt h
theorem OwnI.cut {w : World} {B : Nat} {v : Value} {xs : List Int} (h : OwnI w B v xs) {U : Nat} (hU : w.heap.size ≤ U) : ∀ b, v.ownBlock = some b → B ≤ b ∧ b < U := fun b e => ⟨(h.lt b e).1, Nat.lt_of_lt_of_le (h.lt b e).2 hU⟩
/-- a block of two cells that may be written -/
def Var2 (w : World) (b : Nat) (u v : Value) : Prop := Box2 w b u v ∧ w.frozen? ⟨b, 0, none⟩ = false ∧ w.frozen? ⟨b, 1, none⟩ = false
theorem Var2.below {w w' : World} {b : Nat} {u v : Value} (h : Var2 w b u v) (hb : Below w.heap.size w w') : Var2 w' b u v :=
  ⟨h.1.below hb, (hb.frozen (p := ⟨b, 0, none⟩) h.1.1).trans h.2.1, (hb.frozen (p := ⟨b, 1, none⟩) h.1.1).trans h.2.2⟩
theorem Var2.new (w : World) (u v : Value) (t : TypeId) : Var2 (w.alloc (.cells #[u, v] t)) w.heap.size u v :=
  ⟨Box2.new w u v t, by simp, by simp⟩
theorem Var2.alloc {w : World} {b : Nat} {u v : Value} (h : Var2 w b u v) (o : Obj) : Var2 (w.alloc o) b u v := h.below ((Below.refl _ _).alloc (Nat.le_refl _) o)
theorem Var2.kept {w w' : World} {b : Nat} {u v : Value} {row : Option Nat} (h : Var2 w b u v) (hg : w.grownBy w' row) (hne : some b ≠ row) : Var2 w' b u v :=
  ⟨h.1.kept hg hne, (World.frozen?_of_block (w := w) (a := ⟨b, 0, none⟩) (hg.block b h.1.1 hne)).trans h.2.1, (World.frozen?_of_block (w := w) (a := ⟨b, 1, none⟩) (hg.block b h.1.1 hne)).trans h.2.2⟩
theorem Var2.set {w : World} {b : Nat} {u v : Value} (h : Var2 w b u v) (u' v' : Value) : Var2 ((w.setCell ⟨b, 0, none⟩ u').setCell ⟨b, 1, none⟩ v') b u' v' := by
  refine ⟨⟨by simpa using h.1.1, ?_, ?_⟩, by simpa using h.2.1, by simpa using h.2.2⟩
  · rw [World.cell?_setCell_other _ _ _ _ (by simp), World.cell?_setCell_same _ _ _ h.1.2.1]
  · rw [World.cell?_setCell_same _ _ _ (u := v) (by rw [World.cell?_setCell_other _ _ _ _ (by simp)]; exact h.1.2.2)]
theorem grown_set (w : World) (p : Addr) (u : Value) : w.grownBy (w.setCell p u) (some p.block) :=
  ⟨rfl, rfl, rfl, by simp, fun k hk hn => Below.heap_setCell w p u k (fun e => hn (by rw [e]))⟩
theorem Var2.set1 {w : World} {b : Nat} {u v : Value} (h : Var2 w b u v) (v' : Value) : Var2 (w.setCell ⟨b, 1, none⟩ v') b u v' := by
  refine ⟨⟨by simpa using h.1.1, ?_, ?_⟩, by simpa using h.2.1, by simpa using h.2.2⟩
  · rw [World.cell?_setCell_other _ _ _ _ (by simp)]; exact h.1.2.1
  · rw [World.cell?_setCell_same _ _ _ h.1.2.2]
theorem Box2.set {w : World} {b : Nat} {u v : Value} (h : Box2 w b u v) {p : Addr} (x : Value) (hne : b ≠ p.block) : Box2 (w.setCell p x) b u v :=
  h.kept (grown_set w p x) (by simpa using hne)
theorem Var2.other {w : World} {b : Nat} {u v : Value} (h : Var2 w b u v) {p : Addr} (x : Value) (hne : b ≠ p.block) : Var2 (w.setCell p x) b u v :=
  h.kept (grown_set w p x) (by simpa using hne)
theorem ne_own {v : Value} {b : Nat} (h : ∀ c, v.ownBlock = some c → c ≠ b) : some b ≠ v.ownBlock := fun e => h b e.symm rfl
theorem grown_alloc_set {w w1 : World} {r : Option Nat} {o : Obj} (h : (w.alloc o).grownBy w1 r) : w.grownBy w1 r :=
  ⟨h.os, h.tape, h.output, by have := h.size; simp at this; omega, fun k hk hn => (h.block k (by simp; omega) hn).trans (Below.heap_alloc w o k hk)⟩
theorem grown_trans {w w1 w2 : World} {r : Option Nat} (h1 : w.grownBy w1 r) (h2 : w1.grownBy w2 r) : w.grownBy w2 r :=
  ⟨h2.os.trans h1.os, h2.tape.trans h1.tape, h2.output.trans h1.output, Nat.le_trans h1.size h2.size, fun k hk hn => (h2.block k (by have := h1.size; omega) hn).trans (h1.block k hk hn)⟩
theorem OwnI.nil (w : World) (B : Nat) : OwnI w B (.slice none 0 0) [] := World.ownsRow_nil _ _ _ _
theorem below_of_grown {w w' : World} {v : Value} {B : Nat} (hg : w.grownBy w' v.ownBlock) (hB : ∀ b, v.ownBlock = some b → B ≤ b) (hs : B ≤ w.heap.size) : Below B w w' :=
  ⟨hg.os, hg.tape, hg.output, hg.size, fun k hk => hg.block k (by omega) (fun e => by have := hB k e.symm; omega)⟩

theorem set_step (xs : List Int) (k : Nat) (h : k < xs.length) :
    ((xs.take k ++ List.replicate (xs.length - k) (0:Int)).map (Value.int .i64)).set k (.int .i64 (nth xs k)) = (xs.take (k+1) ++ List.replicate (xs.length - (k+1)) (0:Int)).map (Value.int .i64) := by
  apply List.ext_getElem?
  intro j
  have hk : (xs.take k).length = k := by simp; omega
  have hk1 : (xs.take (k+1)).length = k+1 := by simp; omega
  rw [List.getElem?_set]
  by_cases hj : k = j
  · subst hj
    rw [if_pos rfl, if_pos (by simp; omega), List.getElem?_map, List.getElem?_append_left (by omega)]
    simp [nth, h]
  · simp only [hj, if_false, List.getElem?_map, List.getElem?_append, hk, hk1, List.getElem?_take, List.getElem?_replicate]
    by_cases h1 : j < k
    · have h2 : j < k + 1 := by omega
      simp [h1, h2]
    · have h2 : ¬ j < k + 1 := by omega
      have h3 : j - k < xs.length - k ↔ j - (k+1) < xs.length - (k+1) := by omega
      simp [h1, h2, h3]
theorem toIntS_any (a : Option Addr) (xs : List Int) (cap : Nat) (w : World) (hx : Rd w a xs) (hn : xs.length ≤ 1048576) :
    Calls Try.prog 12 #[.slice a xs.length cap] w fun e w' => ∃ a' cap', e = .returned (.slice a' xs.length cap') ∧ OwnI w' w.heap.size (.slice a' xs.length cap') xs ∧ Below w.heap.size w w' := by
  obtain ⟨i0, hi, hz0, hz1, hz2⟩ := info_parts infoInt
  go_enter Try.func12, Try.ntmps12
  go_wp2_with (at_make; refine wpList_make_full _ rfl (.tmp 6) (.tmp 6) 22 rfl w.heap.size 3 i0 (.int .i64 0) 1 Try.underlying22 hi hz0 hz1 .i64 .i64 _ _ xs.length rfl rfl rfl rfl (by rw [hz2]; omega) (by unfold maxLen; omega) (Nat.le_refl _) ?_; intro w1 hown hgrow)
  have hb0 : Below w.heap.size w w1 := (Below.refl _ _).grown hgrow (Nat.le_refl _) (fun k h => by cases h)
  have hown0 : w1.ownsRow w.heap.size 3 1 (.slice (some ⟨w.heap.size, 0, none⟩) xs.length xs.length) xs.length ((xs.take 0 ++ List.replicate (xs.length - 0) (0:Int)).map (Value.int .i64)) := by
    simpa [Value.cells, toList_madeCells_one] using hown
  clear hown hgrow
  have hz : w.heap.size < w1.heap.size := by
    have := (World.ownsRow.lt hown0 w.heap.size rfl).2
    omega
  go_loopw [4] (fun i wr => ∃ k : Nat, k ≤ xs.length ∧ i = .int .i64 k ∧ wr.ownsRow w.heap.size 3 1 (.slice (some ⟨w.heap.size, 0, none⟩) xs.length xs.length) xs.length ((xs.take k ++ List.replicate (xs.length - k) (0:Int)).map (Value.int .i64)) ∧ Below w.heap.size w wr) (fun i _ => xs.length - (intOf i).toNat)
  case atStart => exact ⟨0, Nat.zero_le _, rfl, hown0, hb0⟩
  case round =>
    obtain ⟨k, hk, rfl, hown, hb⟩ := hrel
    by_cases hlt : k < xs.length
    · obtain ⟨b, off, rfl, hbl, hc⟩ := hx.cell k hlt
      have hc1 := (hb.cell (p := ⟨b, off + k, none⟩) hbl).trans hc
      have hst := World.ownsRow.stored hown k (.int .i64 (nth xs k))
      rw [set_step xs k hlt] at hst
      have hcc := World.ownsRow.cellAt hown k (by omega)
      have hfr := World.ownsRow.frozenAt hown k
      have hcc' : ∃ u, wr.cell? ⟨w.heap.size, k, none⟩ = some u := by
        rw [hcc]
        exact ⟨_, List.getElem?_eq_getElem (by simp; omega)⟩
      obtain ⟨u, hu⟩ := hcc'
      have Hst := Lib.hid hst
      clear hst hcc hown hc
      go_wp2
      go_roundw
      case rel => exact ⟨k + 1, by omega, by go_num, Hst.out.1, hb.setCell (Nat.le_refl _) _⟩
      case measure => simp [intOf]; omega
    · obtain rfl : k = xs.length := by omega
      go_wp2
      go_ret
      refine ⟨_, _, rfl, ?_, hb⟩
      have : xs.take xs.length ++ List.replicate (xs.length - xs.length) (0:Int) = xs := by simp
      rw [this] at hown
      exact hown

def eqL (xs ys : List Int) : Bool := decide (xs = ys)
theorem eqIntS_any (a b : Option Addr) (xs ys : List Int) (ca cb : Nat) (w : World) (hx : Rd w a xs) (hy : Rd w b ys) :
    Calls Try.prog 14 #[.slice a xs.length ca, .slice b ys.length cb] w fun e w' => e = .returned (.bool (eqL xs ys)) ∧ Below w.heap.size w w' := by
  have hlx := hx.len
  have hly := hy.len
  by_cases hl : xs.length = ys.length
  · have hl' : ((xs.length : Int) != (ys.length : Int)) = false := by simp [hl]
    go_enter Try.func14, Try.ntmps14
    have HL := Lib.hid hl
    clear hl
    go_wp2_with fail
    go_loopw [5] (fun i wr => ∃ k : Nat, k ≤ xs.length ∧ i = .int .i64 k ∧ xs.take k = ys.take k ∧ Below w.heap.size w wr) (fun i _ => xs.length - (intOf i).toNat)
    case atStart => exact ⟨0, Nat.zero_le _, rfl, rfl, Below.refl _ _⟩
    case round =>
      obtain ⟨k, hk, rfl, htk, hb⟩ := hrel
      have HT := Lib.hid htk
      clear htk
      by_cases hlt : k < xs.length
      · have hlt' : k < ys.length := by rw [← HL.out]; exact hlt
        obtain ⟨b1, o1, rfl, hb1, hc1⟩ := (hx.below hb).cell k hlt
        obtain ⟨b2, o2, rfl, hb2, hc2⟩ := (hy.below hb).cell k hlt'
        by_cases he : nth xs k = nth ys k
        · have he' : (nth xs k != nth ys k) = false := by simp [he]
          have HE := Lib.hid he
          clear he
          go_wp2_with fail
          go_quiet (fail)
          go_wp2_with fail
          go_roundw
          case rel =>
            refine ⟨k + 1, by omega, by go_num, ?_, by exact hb.trans (Joins.below_draws _ _ _)⟩
            rw [List.take_succ_eq_append_getElem hlt, List.take_succ_eq_append_getElem hlt', HT.out, ← nth_get, ← nth_get, HE.out]
          case measure => simp [intOf]; omega
        · have he' : (nth xs k != nth ys k) = true := by simp [he]
          have hne : eqL xs ys = false := by
            simp only [eqL, decide_eq_false_iff_not]
            intro e
            subst e
            exact he rfl
          have HN := Lib.hid hne
          clear he hne
          go_wp2_with fail
          go_quiet (fail)
          go_wp2_with fail
          go_ret
          exact ⟨ret_bool HN.out.symm, hb.trans (Joins.below_draws _ _ _)⟩
      · go_wp2_with fail
        go_ret
        refine ⟨ret_bool ?_, hb⟩
        have h1 := HT.out
        rw [List.take_of_length_le (by omega), List.take_of_length_le (by rw [← HL.out]; omega)] at h1
        simp [eqL, h1]
  · have hl' : ((xs.length : Int) != (ys.length : Int)) = true := by simp; omega
    have hne : eqL xs ys = false := by
      simp only [eqL, decide_eq_false_iff_not]
      intro e
      exact hl (by rw [e])
    have HN := Lib.hid hne
    clear hl hne
    go_enter Try.func14, Try.ntmps14
    go_wp2_with fail
    go_ret
    exact ⟨ret_bool HN.out.symm, Below.refl _ _⟩
theorem eqL_self (xs : List Int) : eqL xs xs = true := by simp [eqL]

def inB (n lo hi : Int) : Bool := decide (lo ≤ n) && decide (n ≤ hi)
theorem inB_iff {n lo hi : Int} : inB n lo hi = true ↔ lo ≤ n ∧ n ≤ hi := by simp [inB]
theorem inB_no {n lo hi : Int} : inB n lo hi = false ↔ n < lo ∨ hi < n := by
  rw [← Bool.not_eq_true, inB_iff]
  omega

/-- the list of f 0, .., f (k - 1) -/
def fmap (f : Nat → Int) (k : Nat) : List Int := (List.range k).map f
theorem fmap_len (f : Nat → Int) (k : Nat) : (fmap f k).length = k := by simp [fmap]
theorem fmap_nth (f : Nat → Int) {k i : Nat} (h : i < k) : nth (fmap f k) i = f i := by simp [nth, fmap, h]
theorem fmap_succ (f : Nat → Int) (k : Nat) : fmap f (k+1) = fmap f k ++ [f k] := by simp [fmap, List.range_succ]
/-- one store more into a row that was made -/
theorem fill_step (f : Nat → Int) (m k : Nat) (h : k < m) :
    ((fmap f k ++ List.replicate (m - k) (0:Int)).map (Value.int .i64)).set k (.int .i64 (f k)) = (fmap f (k+1) ++ List.replicate (m - (k+1)) (0:Int)).map (Value.int .i64) := by
  apply List.ext_getElem?
  intro j
  rw [List.getElem?_set]
  by_cases hj : k = j
  · subst hj
    rw [if_pos rfl, if_pos (by simp [fmap_len]; omega), List.getElem?_map, List.getElem?_append_left (by rw [fmap_len]; omega)]
    simp [fmap]
  · simp only [hj, if_false, List.getElem?_map, List.getElem?_append, fmap_len, List.getElem?_replicate]
    by_cases h1 : j < k
    · have h2 : j < k + 1 := by omega
      simp [h1, h2, fmap]
    · have h2 : ¬ j < k + 1 := by omega
      have h3 : j - k < m - k ↔ j - (k+1) < m - (k+1) := by omega
      simp [h1, h2, h3]
theorem fill_end (f : Nat → Int) (m : Nat) : fmap f m ++ List.replicate (m - m) (0:Int) = fmap f m := by simp
/-- the row that a make of m integers has made -/
theorem made_ints {w1 : World} {B : Nat} {v : Value} {m : Nat} (f : Nat → Int) (h : w1.ownsRow B 3 1 v m (madeCells (Value.int .i64 0).cells (m * 1)).toList) :
    w1.ownsRow B 3 1 v m ((fmap f 0 ++ List.replicate (m - 0) (0:Int)).map (Value.int .i64)) := by
  simpa [Value.cells, toList_madeCells_one, fmap] using h

theorem wrap64_small (n : Int) (h0 : -9223372036854775808 ≤ n) (h1 : n ≤ 9223372036854775807) : IntKind.i64.wrap n = n := by
  simp only [IntKind.wrap, IntKind.bits, IntKind.signed]
  simp
  omega
theorem i64_wrap (n : Int) : IntKind.i64.wrap n = wrap64 n := IntWalk.i64_left n
theorem ofInt_i64 (a : Nat) (ha : a < 9223372036854775808) : (BitVec.ofInt 64 (a : Int)).toNat = a := by
  simp
  omega
theorem and_nat (a b : Nat) (ha : a < 9223372036854775808) (hb : b < 9223372036854775808) : bits .and .i64 (a : Int) (b : Int) = ((a &&& b : Nat) : Int) := by
  have hx : a &&& b < 2 ^ 63 := Nat.and_lt_two_pow _ (by omega)
  show IntKind.i64.wrap ((BitVec.ofInt 64 (a : Int) &&& BitVec.ofInt 64 (b : Int)).toNat : Int) = _
  rw [BitVec.toNat_and, ofInt_i64 a ha, ofInt_i64 b hb, wrap64_small _ (by omega) (by omega)]
theorem or_nat (a b : Nat) (ha : a < 9223372036854775808) (hb : b < 9223372036854775808) : bits .or .i64 (a : Int) (b : Int) = ((a ||| b : Nat) : Int) := by
  have hx : a ||| b < 2 ^ 63 := Nat.or_lt_two_pow (by omega) (by omega)
  show IntKind.i64.wrap ((BitVec.ofInt 64 (a : Int) ||| BitVec.ofInt 64 (b : Int)).toNat : Int) = _
  rw [BitVec.toNat_or, ofInt_i64 a ha, ofInt_i64 b hb, wrap64_small _ (by omega) (by omega)]
/-- a set without the elements of another one -/
def sub (a b : Nat) : Nat := a ^^^ (a &&& b)
theorem testBit_sub (a b i : Nat) : (sub a b).testBit i = (a.testBit i && !b.testBit i) := by
  simp [sub, Nat.testBit_xor, Nat.testBit_and]
  cases a.testBit i <;> cases b.testBit i <;> rfl
theorem sub_lt {a b n : Nat} (h : a < 2 ^ n) : sub a b < 2 ^ n := by
  unfold sub
  exact Nat.xor_lt_two_pow h (by rw [Nat.and_comm]; exact Nat.and_lt_two_pow _ h)
theorem sub_nat (a b : Nat) (ha : a < 9223372036854775808) (hb : b < 9223372036854775808) : bits .andNot .i64 (a : Int) (b : Int) = ((sub a b : Nat) : Int) := by
  have hs : sub a b < 2 ^ 63 := sub_lt (by omega)
  show IntKind.i64.wrap ((BitVec.ofInt 64 (a : Int) &&& ~~~BitVec.ofInt 64 (b : Int)).toNat : Int) = _
  have e : (BitVec.ofInt 64 (a : Int) &&& ~~~BitVec.ofInt 64 (b : Int)).toNat = sub a b := by
    apply Nat.eq_of_testBit_eq
    intro i
    rw [BitVec.testBit_toNat, BitVec.getLsbD_and, BitVec.getLsbD_not, testBit_sub, ← BitVec.testBit_toNat, ← BitVec.testBit_toNat, ofInt_i64 a ha, ofInt_i64 b hb]
    by_cases hi : i < 64
    · simp [hi]
    · have : a.testBit i = false := Nat.testBit_lt_two_pow (Nat.lt_of_lt_of_le (by omega : a < 2 ^ 64) (Nat.pow_le_pow_right (by omega) (by omega)))
      simp [this]
  rw [e, wrap64_small _ (by omega) (by omega)]
theorem shr_nat (s i : Nat) (hs : s < 9223372036854775808) : (s : Int) / (2 ^ min i 64) = ((s >>> i : Nat) : Int) := by
  rw [Nat.shiftRight_eq_div_pow]
  by_cases h : i ≤ 64
  · rw [Nat.min_eq_left h]
    simp
  · rw [Nat.min_eq_right (by omega)]
    have : 2 ^ 64 ≤ 2 ^ i := Nat.pow_le_pow_right (by omega) (by omega)
    rw [Nat.div_eq_of_lt (by omega)]
    omega
theorem bit_and (s i : Nat) (hs : s < 9223372036854775808) : (bits .and .i64 ((s >>> i : Nat) : Int) 1 == 1) = s.testBit i := by
  have h1 : s >>> i ≤ s := by rw [Nat.shiftRight_eq_div_pow]; exact Nat.div_le_self _ _
  have := and_nat (s >>> i) 1 (by omega) (by omega)
  rw [show ((1 : Nat) : Int) = 1 from rfl] at this
  rw [this, Nat.testBit, Nat.and_one_is_mod, Nat.and_comm, Nat.and_one_is_mod]
  rcases Nat.mod_two_eq_zero_or_one (s >>> i) with h | h <;> simp [h]
theorem bit_mod (s i : Nat) : (((s >>> i : Nat) : Int) % 2 == 1) = s.testBit i := by
  rw [Nat.testBit, Nat.and_comm, Nat.and_one_is_mod]
  rcases Nat.mod_two_eq_zero_or_one (s >>> i) with h | h
  · have h2 : ((s >>> i : Nat) : Int) % 2 = 0 := by omega
    rw [h2, h]; rfl
  · have h2 : ((s >>> i : Nat) : Int) % 2 = 1 := by omega
    rw [h2, h]; rfl
theorem bit_tmod (s i : Nat) : (((s >>> i : Nat) : Int).tmod 2 == 1) = s.testBit i := by
  rw [Int.tmod_eq_emod_of_nonneg (Int.natCast_nonneg _), bit_mod]
/-- is i in the set s? -/
def hasB (s i : Int) : Bool := s.toNat.testBit i.toNat
theorem has_and {s i : Int} (h0 : 0 ≤ s) (h1 : s ≤ 9223372036854775807) (hi : 0 ≤ i) : (bits .and .i64 (s / 2 ^ min i.toNat 64) 1 == 1) = hasB s i := by
  obtain ⟨S, rfl⟩ := Int.eq_ofNat_of_zero_le h0
  rw [shr_nat S _ (by omega), bit_and S _ (by omega)]
  rfl
theorem has_mod {s i : Int} (h0 : 0 ≤ s) (h1 : s ≤ 9223372036854775807) (hi : 0 ≤ i) : ((s / 2 ^ min i.toNat 64).tmod 2 == 1) = hasB s i := by
  obtain ⟨S, rfl⟩ := Int.eq_ofNat_of_zero_le h0
  rw [shr_nat S _ (by omega), bit_tmod S]
  rfl
theorem pow_w {k : Nat} (h : k < 62) : wrap64 (2 ^ k) = ((2 ^ k : Nat) : Int) := by
  have : 2 ^ k ≤ 2 ^ 61 := Nat.pow_le_pow_right (by omega) (by omega)
  rw [show ((2:Int) ^ k) = ((2 ^ k : Nat) : Int) by simp]
  generalize hp : 2 ^ k = p at *
  exact IntWalk.wrap64_in _ ⟨by omega, by omega⟩
theorem or_bit {b k : Nat} (hb : b < 4611686018427387904) (hk : k < 62) : bits .or .i64 (b : Int) (wrap64 (2 ^ k)) = ((b ||| 2 ^ k : Nat) : Int) := by
  rw [pow_w hk]
  have : 2 ^ k ≤ 2 ^ 61 := Nat.pow_le_pow_right (by omega) (by omega)
  exact or_nat _ _ (by omega) (by omega)
theorem or_i {a b : Int} (ha : 0 ≤ a) (ha1 : a < 9223372036854775808) (hb : 0 ≤ b) (hb1 : b < 9223372036854775808) : bits .or .i64 a b = ((a.toNat ||| b.toNat : Nat) : Int) := by
  obtain ⟨A, rfl⟩ := Int.eq_ofNat_of_zero_le ha
  obtain ⟨B, rfl⟩ := Int.eq_ofNat_of_zero_le hb
  exact or_nat A B (by omega) (by omega)
theorem sub_i {a b : Int} (ha : 0 ≤ a) (ha1 : a < 9223372036854775808) (hb : 0 ≤ b) (hb1 : b < 9223372036854775808) : bits .andNot .i64 a b = ((sub a.toNat b.toNat : Nat) : Int) := by
  obtain ⟨A, rfl⟩ := Int.eq_ofNat_of_zero_le ha
  obtain ⟨B, rfl⟩ := Int.eq_ofNat_of_zero_le hb
  exact sub_nat A B (by omega) (by omega)
theorem or_lt {a b n : Nat} (ha : a < 2 ^ n) (hb : b < 2 ^ n) : a ||| b < 2 ^ n := Nat.or_lt_two_pow ha hb
theorem two_lt {k n : Nat} (h : k < n) : 2 ^ k < 2 ^ n := Nat.pow_lt_pow_right (by omega) h
theorem testBit_two (k i : Nat) : (2 ^ k).testBit i = decide (k = i) := Nat.testBit_two_pow

/-- the elements of a set that are less than k, in order -/
def elemsTo (s : Nat) : Nat → List Int
  | 0 => []
  | k+1 => if s.testBit k then elemsTo s k ++ [(k : Int)] else elemsTo s k
theorem elemsTo_len (s : Nat) : ∀ k, (elemsTo s k).length ≤ k
  | 0 => by simp [elemsTo]
  | k+1 => by
    have := elemsTo_len s k
    simp only [elemsTo]
    split <;> simp <;> omega
theorem mem_elemsTo (s : Nat) (x : Int) : ∀ k, x ∈ elemsTo s k ↔ ∃ i : Nat, i < k ∧ s.testBit i = true ∧ x = i
  | 0 => by simp [elemsTo]
  | k+1 => by
    have ih := mem_elemsTo s x k
    simp only [elemsTo]
    cases hb : s.testBit k
    · rw [if_neg (by simp), ih]
      constructor
      · rintro ⟨i, h1, h2, h3⟩
        exact ⟨i, by omega, h2, h3⟩
      · rintro ⟨i, h1, h2, h3⟩
        have : i ≠ k := fun e => by rw [e, hb] at h2; cases h2
        exact ⟨i, by omega, h2, h3⟩
    · rw [if_pos rfl, List.mem_append, ih]
      constructor
      · rintro (⟨i, h1, h2, h3⟩ | h)
        · exact ⟨i, by omega, h2, h3⟩
        · exact ⟨k, by omega, hb, by simpa using h⟩
      · rintro ⟨i, h1, h2, h3⟩
        by_cases e : i = k
        · exact .inr (by simp [h3, e])
        · exact .inl ⟨i, by omega, h2, h3⟩
theorem elemsTo_more (s k : Nat) (h : s >>> k = 0) : ∀ m, elemsTo s (k + m) = elemsTo s k
  | 0 => rfl
  | m+1 => by
    have hb : s.testBit (k + m) = false := by
      rw [Nat.testBit]
      have : s >>> (k + m) = 0 := by rw [Nat.shiftRight_add, h]; simp
      simp [this]
    show elemsTo s (k + m + 1) = _
    simp only [elemsTo, hb]
    exact elemsTo_more s k h m
/-- all elements of a set below 1024 -/
def elems (s : Nat) : List Int := elemsTo s 10
theorem elems_at {s k : Nat} (h : s >>> k = 0) (hk : k ≤ 10) : elemsTo s k = elems s := by
  have := elemsTo_more s k h (10 - k)
  rw [show k + (10 - k) = 10 from by omega] at this
  exact this.symm
theorem elems_len (s : Nat) : (elems s).length ≤ 10 := elemsTo_len s 10
theorem mem_elems {s : Nat} (hs : s < 1024) {x : Int} : x ∈ elems s ↔ ∃ i : Nat, s.testBit i = true ∧ x = i := by
  rw [elems, mem_elemsTo]
  constructor
  · rintro ⟨i, _, h2, h3⟩
    exact ⟨i, h2, h3⟩
  · rintro ⟨i, h2, h3⟩
    refine ⟨i, ?_, h2, h3⟩
    rcases Nat.lt_or_ge i 10 with h | h
    · exact h
    · have : s < 2 ^ i := Nat.lt_of_lt_of_le hs (Nat.pow_le_pow_right (by omega : 0 < 2) h)
      rw [Nat.testBit_lt_two_pow this] at h2
      cases h2
theorem nth_mem {xs : List Int} {k : Nat} (h : k < xs.length) : nth xs k ∈ xs := by
  rw [nth_get xs k h]; exact List.getElem_mem h
theorem mem_nth {xs : List Int} {x : Int} (h : x ∈ xs) : ∃ k, k < xs.length ∧ nth xs k = x := by
  obtain ⟨k, hk, e⟩ := List.getElem_of_mem h
  exact ⟨k, hk, by rw [nth_get xs k hk, e]⟩

/-- is the partner of the point k another point whose partner it is? -/
def ptOk (xs : List Int) (k : Nat) : Bool := inB (nth xs k) 0 ((xs.length : Int) - 1) && (!decide (nth xs k = (k : Int)) && decide (nth xs (nth xs k).toNat = (k : Int)))
/-- is it a matching? -/
def mcB (xs : List Int) : Bool := decide (xs.length ≤ 24) && (List.range xs.length).all (ptOk xs)
theorem mcB_iff {xs : List Int} : mcB xs = true ↔ xs.length ≤ 24 ∧ ∀ k, k < xs.length → ptOk xs k = true := by simp [mcB]
theorem mcB_no {xs : List Int} {k : Nat} (hk : k < xs.length) (h : ptOk xs k = false) : mcB xs = false := by
  rw [← Bool.not_eq_true, mcB_iff]
  rintro ⟨_, h2⟩
  rw [h2 k hk] at h
  cases h
theorem mcB_long {xs : List Int} (h : 24 < xs.length) : mcB xs = false := by
  rw [← Bool.not_eq_true, mcB_iff]
  rintro ⟨h2, _⟩
  omega
theorem mcB_at {xs : List Int} (h : mcB xs = true) {k : Nat} (hk : k < xs.length) : ∃ j, j < xs.length ∧ nth xs k = (j : Int) ∧ nth xs j = (k : Int) ∧ j ≠ k := by
  have h1 := (mcB_iff.1 h).2 k hk
  simp only [ptOk, Bool.and_eq_true, inB_iff, Bool.not_eq_true', decide_eq_false_iff_not, decide_eq_true_eq] at h1
  obtain ⟨⟨h2, h3⟩, h4, h5⟩ := h1
  refine ⟨(nth xs k).toNat, by omega, by omega, h5, by omega⟩
theorem mcB_len {xs : List Int} (h : mcB xs = true) : xs.length ≤ 24 := (mcB_iff.1 h).1
/-- is the point k an opener? -/
def opB (xs : List Int) (k : Nat) : Bool := decide ((k : Int) < nth xs k)
/-- are the points k and k + 1 of one run? -/
def smB (xs : List Int) (k : Nat) : Bool := opB xs k == opB xs (k+1)
def nearB (xs : List Int) (k : Nat) : Bool := smB xs k && decide (nth xs (k+1) < nth xs k)
/-- the near nestings among the first k points -/
def neTo (xs : List Int) : Nat → List Int
  | 0 => []
  | k+1 => if nearB xs k then neTo xs k ++ [(k : Int)] else neTo xs k
theorem neTo_len (xs : List Int) : ∀ k, (neTo xs k).length ≤ k
  | 0 => by simp [neTo]
  | k+1 => by
    have := neTo_len xs k
    rw [neTo]; split
    · simp; omega
    · omega
def neL (xs : List Int) : List Int := if mcB xs then neTo xs (xs.length - 1) else []
theorem neL_len (xs : List Int) : (neL xs).length ≤ 1048576 := by
  unfold neL
  split
  · rename_i h; have := mcB_len h; have := neTo_len xs (xs.length - 1); omega
  · simp

def allB (xs : List Int) (lo hi : Int) : Bool := xs.all (fun x => inB x lo hi)
theorem allB_take (xs : List Int) (lo hi : Int) (k : Nat) (h : k < xs.length) : allB (xs.take (k+1)) lo hi = (allB (xs.take k) lo hi && inB (nth xs k) lo hi) := by
  simp only [allB]
  rw [List.take_succ_eq_append_getElem h, List.all_append]
  simp [nth, h]
theorem allB_false {xs : List Int} {lo hi : Int} {k : Nat} (h : k < xs.length) (h1 : inB (nth xs k) lo hi = false) : allB xs lo hi = false := by
  simp only [allB, List.all_eq_false]
  exact ⟨xs[k], List.getElem_mem h, by simpa [nth, h] using h1⟩
theorem allB_nth {xs : List Int} {lo hi : Int} (h : allB xs lo hi = true) {k : Nat} (hk : k < xs.length) : lo ≤ nth xs k ∧ nth xs k ≤ hi := by
  simp only [allB, List.all_eq_true] at h
  have := inB_iff.1 (h _ (List.getElem_mem hk))
  rwa [← nth_get xs k hk] at this

/-- is it a relation? -/
def relB (n : Int) (xs : List Int) : Bool := inB n 0 10 && decide ((xs.length : Int) = n) && allB xs 0 (2 ^ n.toNat - 1)
theorem relB_iff {n : Int} {xs : List Int} : relB n xs = true ↔ (0 ≤ n ∧ n ≤ 10) ∧ (xs.length : Int) = n ∧ allB xs 0 (2 ^ n.toNat - 1) = true := by
  simp [relB, inB_iff, and_assoc]
theorem pow10 {n : Nat} (h : n ≤ 10) : (1 : Int) ≤ 2 ^ n ∧ (2 : Int) ^ n ≤ 1024 := by
  have h1 : 2 ^ n ≤ 2 ^ 10 := Nat.pow_le_pow_right (by omega) h
  have h2 : 1 ≤ 2 ^ n := Nat.one_le_two_pow
  have h3 : ((2 ^ n : Nat) : Int) = (2 : Int) ^ n := by simp
  omega
theorem full_eq {n : Int} (h0 : 0 ≤ n) (h1 : n ≤ 10) : wrap64 (wrap64 (2 ^ n.toNat) - 1) = 2 ^ n.toNat - 1 := by
  have h2 := pow10 (n := n.toNat) (by omega)
  generalize (2 : Int) ^ n.toNat = p at *
  rw [IntWalk.wrap64_in p ⟨by omega, by omega⟩, IntWalk.wrap64_in _ ⟨by omega, by omega⟩]
structure RelP (n : Int) (xs : List Int) : Prop where
  n0 : 0 ≤ n
  n1 : n ≤ 10
  len : (xs.length : Int) = n
  pos : ∀ k, k < xs.length → 0 ≤ nth xs k
  lt : ∀ k, k < xs.length → nth xs k < 2 ^ xs.length
  small : ∀ k, k < xs.length → nth xs k < 1024
theorem relB_p {n : Int} {xs : List Int} (h : relB n xs = true) : RelP n xs := by
  obtain ⟨⟨h0, h1⟩, h2, h3⟩ := relB_iff.1 h
  have e : n.toNat = xs.length := by omega
  rw [e] at h3
  have hp := pow10 (n := xs.length) (by omega)
  exact ⟨h0, h1, h2, fun k hk => (allB_nth h3 hk).1, fun k hk => by have := (allB_nth h3 hk).2; omega, fun k hk => by have := (allB_nth h3 hk).2; omega⟩

/-- one step of the closing: what is above k goes to i, if k is above i -/
def clStep (xs : List Int) (k i : Nat) : List Int := if hasB (nth xs i) k then xs.set i (((nth xs i).toNat ||| (nth xs k).toNat : Nat) : Int) else xs
def clRow (xs : List Int) (k : Nat) : Nat → List Int
  | 0 => xs
  | i+1 => clStep (clRow xs k i) k i
def clAll (xs : List Int) : Nat → List Int
  | 0 => xs
  | k+1 => clRow (clAll xs k) k xs.length
theorem clStep_len (xs : List Int) (k i : Nat) : (clStep xs k i).length = xs.length := by
  unfold clStep; split <;> simp
theorem clRow_len (xs : List Int) (k : Nat) : ∀ i, (clRow xs k i).length = xs.length
  | 0 => rfl
  | i+1 => by rw [clRow, clStep_len, clRow_len xs k i]
theorem clAll_len (xs : List Int) : ∀ k, (clAll xs k).length = xs.length
  | 0 => rfl
  | k+1 => by rw [clAll, clRow_len, clAll_len xs k]
/-- all numbers of a list are sets below 1024 -/
def Small (xs : List Int) : Prop := ∀ k, k < xs.length → 0 ≤ nth xs k ∧ nth xs k < 1024
theorem nth_set {xs : List Int} {i j : Nat} {x : Int} (hi : i < xs.length) : nth (xs.set i x) j = if i = j then x else nth xs j := by
  simp only [nth, List.getD_eq_getElem?_getD, List.getElem?_set]
  by_cases h : i = j
  · subst h; simp [hi]
  · simp [h]
theorem clStep_small {xs : List Int} (h : Small xs) {k i : Nat} (hk : k < xs.length) (hi : i < xs.length) : Small (clStep xs k i) := by
  unfold clStep
  split
  · intro j hj
    rw [nth_set hi]
    have h1 := h i hi
    have h2 := h k hk
    split
    · have : (nth xs i).toNat ||| (nth xs k).toNat < 2 ^ 10 := or_lt (by omega) (by omega)
      omega
    · exact h j (by simpa using hj)
  · exact h
theorem clRow_small {xs : List Int} (h : Small xs) {k : Nat} (hk : k < xs.length) : ∀ i, i ≤ xs.length → Small (clRow xs k i)
  | 0, _ => h
  | i+1, hi => clStep_small (clRow_small h hk i (by omega)) (by rw [clRow_len]; exact hk) (by rw [clRow_len]; omega)
theorem clAll_small {xs : List Int} (h : Small xs) : ∀ k, k ≤ xs.length → Small (clAll xs k)
  | 0, _ => h
  | k+1, hk => clRow_small (clAll_small h k (by omega)) (by rw [clAll_len]; omega) _ (by rw [clAll_len]; omega)
theorem RelP.sm {n : Int} {xs : List Int} (h : RelP n xs) : Small xs := fun k hk => ⟨h.pos k hk, h.small k hk⟩
theorem set_ints (xs : List Int) (i : Nat) (x : Int) : (xs.map (Value.int .i64)).set i (.int .i64 x) = (xs.set i x).map (Value.int .i64) := by
  rw [List.map_set]
/-- a store into an owned row -/
theorem OwnI.put {w : World} {B g n cap : Nat} {xs : List Int} (h : OwnI w B (.slice (some ⟨g, 0, none⟩) n cap) xs) (hn : n = xs.length) (i : Nat) (x : Int) :
    OwnI (w.setCell ⟨g, i, none⟩ (.int .i64 x)) B (.slice (some ⟨g, 0, none⟩) n cap) (xs.set i x) ∧ w.grownBy (w.setCell ⟨g, i, none⟩ (.int .i64 x)) (some g) := by
  subst hn
  have hst := World.ownsRow.stored h i (.int .i64 x)
  rw [set_ints] at hst
  refine ⟨?_, hst.2⟩
  unfold OwnI
  rw [List.length_set]
  exact hst.1
theorem OwnI.at' {w : World} {B g n cap : Nat} {xs : List Int} (h : OwnI w B (.slice (some ⟨g, 0, none⟩) n cap) xs) (hn : n = xs.length) {i : Nat} (hi : i < xs.length) :
    w.cell? ⟨g, i, none⟩ = some (.int .i64 (nth xs i)) ∧ w.frozen? ⟨g, i, none⟩ = false := by
  subst hn
  refine ⟨?_, World.ownsRow.frozenAt h i⟩
  rw [World.ownsRow.cellAt h i (by omega)]
  simp [nth, hi]
theorem OwnI.head {w : World} {B n cap : Nat} {a : Option Addr} {xs : List Int} (h : OwnI w B (.slice a n cap) xs) (hp : 0 < xs.length) : ∃ g, a = some ⟨g, 0, none⟩ ∧ B ≤ g ∧ g < w.heap.size := by
  rcases h.2 with ⟨e, h0⟩ | ⟨g, c, cur, e, hb, hg, _⟩
  · omega
  · simp only [Value.slice.injEq] at e
    exact ⟨g, e.1, hb, (Array.getElem?_eq_some_iff.1 hg).1⟩
def cloN (n : Int) (xs : List Int) : Int := if relB n xs then n else 0
def cloL (n : Int) (xs : List Int) : List Int := if relB n xs then clAll xs xs.length else []
theorem cloL_len (n : Int) (xs : List Int) : (cloL n xs).length ≤ 1048576 := by
  unfold cloL
  split
  · rename_i h
    have hp := relB_p h
    have := hp.len
    have := hp.n1
    rw [clAll_len]
    omega
  · simp

theorem fmap_cong {f g : Nat → Int} {k : Nat} (h : ∀ i, i < k → f i = g i) : fmap f k = fmap g k := by
  simp only [fmap]
  apply List.map_congr_left
  intro i hi
  exact h i (by simpa using hi)
theorem fmap_upd {f g : Nat → Int} {n i : Nat} {x : Int} (hi : i < n) (h : ∀ b, b < n → g b = if b = i then x else f b) : (fmap f n).set i x = fmap g n := by
  apply List.ext_getElem (by simp [fmap_len])
  intro j h1 h2
  rw [List.getElem_set]
  have h3 : j < n := by simpa [fmap_len] using h2
  simp only [fmap, List.getElem_map, List.getElem_range]
  rw [h j h3]
  by_cases e : i = j
  · subst e; simp
  · rw [if_neg e, if_neg (fun h => e h.symm)]

def mmF (xs : List Int) (b : Nat) : Int := ((xs.length : Int) - 1) - nth xs (xs.length - 1 - b)
def mmL (xs : List Int) : List Int := if mcB xs then fmap (mmF xs) xs.length else []
theorem mmL_len (xs : List Int) : (mmL xs).length ≤ 1048576 := by
  unfold mmL
  split
  · rename_i h; have := mcB_len h; rw [fmap_len]; omega
  · simp

/-- one number more at the end of a row that is owned -/
theorem push_at {ops : Array Oper} {rest : List Oper} {o : Oper} {a : Act} {Q : Exit → Act → World → Prop} (hgd : o.guard = none) (s x : Operand)
    (ho : o.op = .call { callee := .builtin .append, args := #[s, x], argTypes := #[22, 22] }) {wr : World} {B : Nat} {v : Value} {ys : List Int} {z : Int}
    (hs : a.eval s = v) (hown : OwnI wr B v ys) (hx : a.eval x = .slice (some ⟨wr.heap.size, 0, none⟩) 1 1) (h63 : ys.length ≤ 1048576) (hB : B ≤ wr.heap.size)
    (h : ∀ v' w', OwnI w' B v' (ys ++ [z]) → wr.grownBy w' v.ownBlock → (v'.ownBlock = v.ownBlock ∨ v'.ownBlock = some (wr.heap.size + 1)) → wpList Try.prog ops Q rest (a.put o.dst v') w') :
    wpList Try.prog ops Q (o :: rest) a (wr.alloc (.cells #[.int .i64 z] 3)) := by
  obtain ⟨i0, hi, hz0, hz1, hz2⟩ := info_parts infoInt
  refine wpList_append_own_at _ hgd s x 22 ho B 3 i0 (.int .i64 0) 1 8 Try.underlying22 hi hz0 hz1 hz2 rfl (by decide) v ys.length (ys.map (Value.int .i64)) hs (hown.alloc _) ⟨wr.heap.size, 0, none⟩ 1 1 [.int .i64 z] hx rfl (cell_one_new _ _ _) (by intro u hu; simp at hu; subst hu; rfl) (by unfold maxLen; omega) (by omega) (by simp; omega) ?_
  intro v' w' ho2 hg _ hat
  refine h v' w' ?_ (grown_alloc_set hg) (by simpa using hat)
  unfold OwnI
  rw [List.length_append, List.map_append]
  exact ho2
/-- the same at a step of a region that draws its order; the new number lies somewhere -/
theorem step_push {ops : Array Oper} {o : Oper} {a : Act} {K : Act → World → Prop} {Q : Exit → Act → World → Prop} {E : Prop} (hgd : o.guard = none) (s x : Operand)
    (ho : o.op = .call { callee := .builtin .append, args := #[s, x], argTypes := #[22, 22] }) {W : World} {B g n : Nat} {v : Value} {ys : List Int} {z : Int}
    (hs : a.eval s = v) (hx : a.eval x = .slice (some ⟨g, 0, none⟩) 1 1) (hown : OwnI W B v ys) (hn : ys.length = n) (hz : W.cell? ⟨g, 0, none⟩ = some (.int .i64 z)) (h63 : n ≤ 1048576) (hB : B ≤ W.heap.size)
    (h : ∀ g' cap w', OwnI w' B (.slice (some ⟨g', 0, none⟩) (n + 1) cap) (ys ++ [z]) → W.grownBy w' v.ownBlock → (v.ownBlock = some g' ∨ g' = W.heap.size) → K (a.put o.dst (.slice (some ⟨g', 0, none⟩) (n + 1) cap)) w') :
    if Region.wanted o (yielded ops a.tmps) = true then Oper.wp Try.prog o a W K Q else E := by
  subst hn
  obtain ⟨i0, hi, hz0, hz1, hz2⟩ := info_parts infoInt
  refine step_append_lies W hgd s x 22 ho B 3 i0 (.int .i64 0) 1 8 Try.underlying22 hi hz0 hz1 hz2 rfl (by decide) v ys.length (ys.map (Value.int .i64)) hs hown ⟨g, 0, none⟩ 1 1 [.int .i64 z] hx rfl ?_ (by intro u hu; simp at hu; subst hu; rfl) (by omega) (by unfold maxLen; omega) (by omega) hB W.heap.size rfl ?_
  · intro j u hj
    obtain ⟨hlt, e⟩ := List.getElem?_eq_some_iff.1 hj
    have h0 : j = 0 := by simpa using hlt
    subst h0
    simp at e
    subst e
    rw [Addr.add_lit]; simpa using hz
  · intro g' cap w' ho2 hg hat _
    refine h g' cap w' ?_ hg hat
    unfold OwnI
    rw [List.length_append, List.map_append]
    exact ho2
theorem news_after {w w3 : World} {x : Int} {m : Nat} (h : Below ((w.drewN m).alloc (.cells #[.int .i64 x] 3)).heap.size ((w.drewN m).alloc (.cells #[.int .i64 x] 3)) w3) : w3.cell? ⟨w.heap.size, 0, none⟩ = some (.int .i64 x) :=
  (h.cell (p := ⟨w.heap.size, 0, none⟩) (show w.heap.size < ((w.drewN m).alloc _).heap.size by rw [World.size_alloc]; exact Nat.lt_succ_of_le (Joins.below_draws w.heap.size w m).size)).trans ((show ∀ W : World, (W.alloc (.cells #[.int .i64 x] 3)).cell? ⟨W.heap.size, 0, none⟩ = some (.int .i64 x) from fun W => by simp) (w.drewN m))
theorem below_after {w w3 : World} {m : Nat} {o : Obj} (h : Below ((w.drewN m).alloc o).heap.size ((w.drewN m).alloc o) w3) : Below w.heap.size w w3 :=
  Below.trans ((Joins.below_draws w.heap.size w m).alloc (Joins.below_draws w.heap.size w m).size _) (h.mono (Nat.le_trans (Joins.below_draws w.heap.size w m).size (by simp)))
theorem below_drew {w w3 : World} {m : Nat} (h : Below (w.drewN m).heap.size (w.drewN m) w3) : Below w.heap.size w w3 :=
  Below.trans (Joins.below_draws w.heap.size w m) (h.mono (Joins.below_draws w.heap.size w m).size)
/-- two values that own no block together -/
def SepV (v u : Value) : Prop := ∀ c, v.ownBlock = some c → u.ownBlock ≠ some c
theorem SepV.symm {v u : Value} (h : SepV v u) : SepV u v := fun c e e2 => h c e2 e
/-- the first of two rows has grown -/
theorem SepV.grow {w : World} {B : Nat} {v v' u : Value} {ys : List Int} {m : Nat} (h : SepV v u) (hu : OwnI w B u ys) (hm : w.heap.size ≤ m) (hat : v'.ownBlock = v.ownBlock ∨ v'.ownBlock = some m) : SepV v' u := by
  intro c e e2
  rcases hat with h1 | h1
  · exact h c (h1 ▸ e) e2
  · rw [h1] at e
    have := (hu.lt c e2).2
    simp only [Option.some.injEq] at e
    omega

theorem l1In_any (n lo hi : Int) (w : World) :
    Calls Try.prog 48 #[.int .i64 n, .int .i64 lo, .int .i64 hi] w fun e w' => e = .returned (.bool (inB n lo hi)) ∧ w = w' := by
  go_enter Try.func48, Try.ntmps48
  go_wp2
  all_goals (go_ret; exact ⟨ret_bool (by simp [inB]; try omega), rfl⟩)
theorem l1In_is {n lo hi : Int} {b : Bool} (h : inB n lo hi = b) (w : World) (m : Nat) :
    Calls Try.prog 48 #[.int .i64 n, .int .i64 lo, .int .i64 hi] (w.drewN m) fun e w' => e = .returned (.bool b) ∧ ∃ k, w' = w.drewN k :=
  Calls.quiet_of_same ((l1In_any n lo hi (w.drewN m)).mono (fun e w' hh => ⟨by rw [← h]; exact hh.1, hh.2.symm⟩))

theorem stGood_any (a : Option Addr) (xs : List Int) (cap : Nat) (w : World) (hx : Rd w a xs) :
    Calls Try.prog 37 #[.slice a xs.length cap] w fun e w' => e = .returned (.bool (mcB xs)) ∧ Below w.heap.size w w' := by
  have hlen := hx.len
  go_enter Try.func37, Try.ntmps37
  go_wp2_with fail
  go_loopw [7] (fun i wr => ∃ k : Nat, k ≤ xs.length ∧ i = .int .i64 k ∧ (∀ j, j < k → ptOk xs j = true) ∧ Below w.heap.size w wr) (fun i _ => xs.length - (intOf i).toNat)
  case atStart => exact ⟨0, Nat.zero_le _, rfl, fun j hj => by omega, Below.refl _ _⟩
  case round =>
    obtain ⟨k, hk, rfl, hall, hb⟩ := hrel
    have HA := Lib.hid hall
    clear hall
    by_cases hlt : k < xs.length
    · have hxr := hx.below hb
      obtain ⟨b, off, rfl, hbl, hc⟩ := hxr.cell k hlt
      cases hi : inB (nth xs k) 0 ((xs.length : Int) - 1)
      · have HO : Hid (mcB xs = false) := mcB_no hlt (by simp [ptOk, hi])
        have HI := Lib.hid hi
        clear hi
        go_wp2_with fail
        refine (l1In_any _ _ _ _).mono ?_
        rintro e w' ⟨rfl, rfl⟩
        rw [HI.out]
        go_wp2_with fail
        go_ret
        exact ⟨ret_bool HO.out.symm, hb⟩
      · have ⟨h1, h2⟩ := inB_iff.1 hi
        obtain ⟨j, hj⟩ : ∃ j : Nat, nth xs k = (j : Int) := ⟨(nth xs k).toNat, by omega⟩
        have hjl : j < xs.length := by omega
        obtain ⟨b', off', e', hbl', hc'⟩ := hxr.cell j hjl
        simp only [Option.some.injEq, Addr.mk.injEq, and_true] at e'
        obtain ⟨rfl, rfl⟩ := e'
        rw [hj] at hc hi
        have HI := Lib.hid hi
        have HJ := Lib.hid hj
        clear hi h1 h2 hj
        by_cases hjk : j = k
        · subst hjk
          have HO : Hid (mcB xs = false) := mcB_no hlt (by simp [ptOk, HJ.out])
          clear hc'
          go_wp2_with fail
          refine (l1In_any _ _ _ _).mono ?_
          rw [HI.out]
          rintro e w' ⟨rfl, rfl⟩
          go_wp2_with fail
          go_ret
          exact ⟨ret_bool HO.out.symm, hb⟩
        · have q1 : ((j : Int) == (k : Int)) = false := by simp; omega
          by_cases hp : nth xs j = (k : Int)
          · have HO : Hid (ptOk xs k = true) := by
              have := HI.out
              simp [Hid, ptOk, this, HJ.out, hp]; omega
            rw [hp] at hc'
            clear hp
            go_wp2_with fail
            refine (l1In_any _ _ _ _).mono ?_
            rw [HI.out]
            rintro e w' ⟨rfl, rfl⟩
            go_wp2_with fail
            go_roundw
            case rel =>
              refine ⟨k + 1, by omega, by go_num, fun j hj => ?_, hb⟩
              by_cases e : j = k
              · rw [e]; exact HO.out
              · exact HA.out j (by omega)
            case measure => simp [intOf]; omega
          · have HO : Hid (mcB xs = false) := mcB_no hlt (by simp [ptOk, HJ.out, hp])
            have q2 : (nth xs j != (k : Int)) = true := by simp [hp]
            clear hp
            go_wp2_with fail
            refine (l1In_any _ _ _ _).mono ?_
            rw [HI.out]
            rintro e w' ⟨rfl, rfl⟩
            go_wp2_with fail
            go_ret
            exact ⟨ret_bool HO.out.symm, hb⟩
    · obtain rfl : k = xs.length := by omega
      by_cases hl : xs.length ≤ 24
      · have HO : Hid (mcB xs = true) := mcB_iff.2 ⟨hl, HA.out⟩
        go_wp2_with fail
        go_ret
        exact ⟨ret_bool (by rw [HO.out]; simp; omega), hb⟩
      · have HO : Hid (mcB xs = false) := mcB_long (by omega)
        go_wp2_with fail
        go_ret
        exact ⟨ret_bool (by rw [HO.out]; simp; omega), hb⟩

/-- what a call hands back that makes a list -/
def GotI (w : World) (ys : List Int) (ok : Bool) (e : Ending) (w' : World) : Prop :=
  ∃ a cap, e = .returned (.tuple #[.slice a ys.length cap, .bool ok]) ∧ OwnI w' w.heap.size (.slice a ys.length cap) ys ∧ Below w.heap.size w w'
theorem gotI_no {w w' : World} {ys : List Int} {ok : Bool} (h1 : ys = []) (h2 : ok = false) (hb : Below w.heap.size w w') : GotI w ys ok (.returned (.tuple #[.slice none 0 0, .bool false])) w' :=
  ⟨none, 0, by rw [h1, h2]; rfl, by rw [h1]; exact OwnI.nil _ _, hb⟩

theorem sMirMt_any (a : Option Addr) (xs : List Int) (cap : Nat) (w : World) (hx : Rd w a xs) :
    Calls Try.prog 33 #[.slice a xs.length cap] w (GotI w (mmL xs) (mcB xs)) := by
  go_enter Try.func33, Try.ntmps33
  go_wp2_with fail
  refine (stGood_any _ _ _ _ hx).mono ?_
  rintro e w1 ⟨rfl, hb1⟩
  cases hb0 : mcB xs
  · have HL : Hid (mmL xs = []) := by simp [Hid, mmL, hb0]
    have HB := Lib.hid hb0
    clear hb0
    go_wp2_with fail
    refine bodyPost_ret (v := .tuple #[.slice none 0 0, .bool false]) (by simp [results, Try.results33, go_sem]) rfl ?_
    exact gotI_no HL.out HB.out hb1
  · have HL : Hid (mmL xs = fmap (mmF xs) xs.length) := by simp [Hid, mmL, hb0]
    have h24 := mcB_len hb0
    have HV : Hid (∀ k, k < xs.length → 0 ≤ nth xs k ∧ nth xs k < (xs.length : Int)) := fun k hk => by
      obtain ⟨j, hj, e, _⟩ := mcB_at hb0 hk
      omega
    have HB := Lib.hid hb0
    clear hb0
    go_wp2_with fail
    go_loopw [4, 5] (fun v i wr => ∃ t : Nat, t ≤ xs.length ∧ i = .int .i64 ((xs.length : Int) - 1 - (t : Int)) ∧ OwnI wr w.heap.size v (fmap (mmF xs) t) ∧ Below w.heap.size w wr) (fun _ i _ => (intOf i + 1).toNat)
    case atStart => exact ⟨0, Nat.zero_le _, by simp, OwnI.nil _ _, hb1⟩
    case round =>
      obtain ⟨t, ht, rfl, hown, hb⟩ := hrel
      have hbs := hb.size
      by_cases hlt : t < xs.length
      · obtain ⟨j, hj⟩ : ∃ j, j = xs.length - 1 - t := ⟨_, rfl⟩
        obtain ⟨b, off, rfl, hbl, hc⟩ := (hx.below hb).cell j (by omega)
        have ⟨v0, v1⟩ := HV.out j (by omega)
        have HN : Hid (fmap (mmF xs) (t+1) = fmap (mmF xs) t ++ [((xs.length : Int) - 1) - nth xs j]) := by rw [Hid, fmap_succ, mmF, hj]
        have hyl : (fmap (mmF xs) t).length = t := fmap_len _ _
        have HI : Hid ((xs.length : Int) - 1 - (t : Int) = (j : Int)) := by rw [Hid, hj]; omega
        rw [HI.out]
        have j1 : (j : Int) < (xs.length : Int) := by omega
        have j0 : (0 : Int) ≤ (j : Int) := by omega
        have HJ := Lib.hid hj
        clear hj
        go_wp2_with (at_builtin; refine push_at rfl _ _ rfl (z := ((xs.length : Int) - 1) - nth xs j) rfl hown rfl (by omega) hbs ?_; intro v3 w3 o3 hg _; have b3 := hb.trans (below_of_grown hg (fun c e => (hown.lt c e).1) hbs); clear hg hown)
        go_roundw
        case rel => exact ⟨t + 1, by omega, by (have := HI.out; apply val_int; omega), by rw [HN.out]; exact o3, b3⟩
        case measure => have := HJ.out; simp [intOf]; try omega
      · obtain rfl : t = xs.length := by omega
        have j0 : (xs.length : Int) - 1 - (xs.length : Int) = -1 := by omega
        rw [j0]
        obtain ⟨a', cap', rfl⟩ := hown.form
        go_wp2_with fail
        refine bodyPost_ret (v := .tuple #[.slice a' (fmap (mmF xs) xs.length).length cap', .bool true]) (by simp [results, Try.results33, go_sem]) rfl ?_
        exact ⟨a', cap', by rw [HL.out, HB.out], by rw [HL.out]; exact hown, hb⟩

/-- a row of m integers of which the first k are filled, f 0 .. -/
def rowF (f : Nat → Int) (m k : Nat) : List Int := fmap f k ++ List.replicate (m - k) 0
theorem rowF_len (f : Nat → Int) {m k : Nat} (h : k ≤ m) : (rowF f m k).length = m := by simp [rowF, fmap_len]; omega
theorem rowF_set (f : Nat → Int) {m k : Nat} (h : k < m) : (rowF f m k).set k (f k) = rowF f m (k+1) := by
  apply List.ext_getElem?
  intro j
  rw [List.getElem?_set]
  by_cases hj : k = j
  · subst hj
    rw [if_pos rfl, if_pos (by rw [rowF_len f (by omega)]; exact h), rowF, List.getElem?_append_left (by rw [fmap_len]; omega)]
    simp [fmap]
  · simp only [hj, if_false, rowF, List.getElem?_append, fmap_len, List.getElem?_replicate]
    by_cases h1 : j < k
    · have h2 : j < k + 1 := by omega
      simp [h1, h2, fmap]
    · have h2 : ¬ j < k + 1 := by omega
      have h3 : j - k < m - k ↔ j - (k+1) < m - (k+1) := by omega
      simp [h1, h2, h3]
theorem rowF_zero (f : Nat → Int) {m k : Nat} (h : k < m) : (rowF f m k).set k 0 = rowF f m k := by
  apply List.ext_getElem?
  intro j
  rw [List.getElem?_set]
  by_cases hj : k = j
  · subst hj
    rw [if_pos rfl, if_pos (by rw [rowF_len f (by omega)]; exact h), rowF, List.getElem?_append_right (by rw [fmap_len]; omega)]
    rw [fmap_len, Nat.sub_self, List.getElem?_replicate, if_pos (by omega)]
  · simp [hj]
theorem rowF_end (f : Nat → Int) (m : Nat) : rowF f m m = fmap f m := by simp [rowF]
theorem made_row {w1 : World} {B : Nat} {v : Value} {m : Nat} (f : Nat → Int) (h : w1.ownsRow B 3 1 v m (madeCells (Value.int .i64 0).cells (m * 1)).toList) : OwnI w1 B v (rowF f m 0) := by
  unfold OwnI
  rw [rowF_len f (Nat.zero_le _)]
  simpa [Value.cells, toList_madeCells_one, fmap, rowF] using h

theorem iIsMatching_any (a : Option Addr) (xs : List Int) (cap : Nat) (w : World) (hx : Rd w a xs) :
    Calls Try.prog 13 #[.slice a xs.length cap] w fun e w' => e = .returned (.bool (mcB xs)) ∧ Below w.heap.size w w' := by
  have hlen := hx.len
  by_cases hl : xs.length ≤ 24
  · go_enter Try.func13, Try.ntmps13
    go_wp2_with fail
    go_loopw [10] (fun i wr => ∃ k : Nat, k ≤ xs.length ∧ i = .int .i64 k ∧ (∀ j, j < k → ptOk xs j = true) ∧ Below w.heap.size w wr) (fun i _ => xs.length - (intOf i).toNat)
    case atStart => exact ⟨0, Nat.zero_le _, rfl, fun j hj => by omega, Below.refl _ _⟩
    case round =>
      obtain ⟨k, hk, rfl, hall, hb⟩ := hrel
      have HA := Lib.hid hall
      clear hall
      by_cases hlt : k < xs.length
      · have hxr := hx.below hb
        obtain ⟨b, off, rfl, hbl, hc⟩ := hxr.cell k hlt
        by_cases h1 : nth xs k < 0
        · have HO : Hid (mcB xs = false) := mcB_no hlt (by have : inB (nth xs k) 0 ((xs.length : Int) - 1) = false := inB_no.2 (.inl h1); simp [ptOk, this])
          go_wp2_with fail
          go_ret
          exact ⟨ret_bool HO.out.symm, hb⟩
        · by_cases h2 : (xs.length : Int) ≤ nth xs k
          · have HO : Hid (mcB xs = false) := mcB_no hlt (by have : inB (nth xs k) 0 ((xs.length : Int) - 1) = false := inB_no.2 (.inr (by omega)); simp [ptOk, this])
            go_wp2_with fail
            go_ret
            exact ⟨ret_bool HO.out.symm, hb⟩
          · have HI : Hid (inB (nth xs k) 0 ((xs.length : Int) - 1) = true) := inB_iff.2 ⟨by omega, by omega⟩
            obtain ⟨j, hj⟩ : ∃ j : Nat, nth xs k = (j : Int) := ⟨(nth xs k).toNat, by omega⟩
            have hjl : j < xs.length := by omega
            obtain ⟨b', off', e', hbl', hc'⟩ := hxr.cell j hjl
            simp only [Option.some.injEq, Addr.mk.injEq, and_true] at e'
            obtain ⟨rfl, rfl⟩ := e'
            rw [hj] at hc
            have HJ := Lib.hid hj
            rw [hj] at HI
            clear h1 h2 hj
            by_cases hjk : j = k
            · subst hjk
              have HO : Hid (mcB xs = false) := mcB_no hlt (by simp [ptOk, HJ.out])
              clear hc'
              go_wp2_with fail
              go_ret
              exact ⟨ret_bool HO.out.symm, hb⟩
            · have q1 : ((j : Int) == (k : Int)) = false := by simp; omega
              by_cases hp : nth xs j = (k : Int)
              · have HO : Hid (ptOk xs k = true) := by
                  have := HI.out
                  simp [Hid, ptOk, this, HJ.out, hp]; omega
                rw [hp] at hc'
                clear hp
                go_wp2_with fail
                go_roundw
                case rel =>
                  refine ⟨k + 1, by omega, by go_num, fun j hj => ?_, hb⟩
                  by_cases e : j = k
                  · rw [e]; exact HO.out
                  · exact HA.out j (by omega)
                case measure => simp [intOf]; omega
              · have HO : Hid (mcB xs = false) := mcB_no hlt (by simp [ptOk, HJ.out, hp])
                have q2 : (nth xs j != (k : Int)) = true := by simp [hp]
                clear hp
                go_wp2_with fail
                go_ret
                exact ⟨ret_bool HO.out.symm, hb⟩
      · obtain rfl : k = xs.length := by omega
        have HO : Hid (mcB xs = true) := mcB_iff.2 ⟨hl, HA.out⟩
        go_wp2_with fail
        go_ret
        exact ⟨ret_bool HO.out.symm, hb⟩
  · have HO := Lib.hid (mcB_long (xs := xs) (by omega))
    go_enter Try.func13, Try.ntmps13
    go_wp2_with fail
    go_ret
    exact ⟨ret_bool HO.out.symm, Below.refl _ _⟩

def mkF (xs : List Int) (k b : Nat) : Int := if xs.length - k ≤ b then mmF xs b else 0
set_option maxRecDepth 100000 in
theorem iMirMt_any (a : Option Addr) (xs : List Int) (cap : Nat) (w : World) (hx : Rd w a xs) :
    Calls Try.prog 34 #[.slice a xs.length cap] w (GotI w (mmL xs) (mcB xs)) := by
  obtain ⟨i0, hi, hz0, hz1, hz2⟩ := info_parts infoInt
  go_enter Try.func34, Try.ntmps34
  go_wp2_with fail
  refine (iIsMatching_any _ _ _ _ hx).mono ?_
  rintro e w1 ⟨rfl, hb1⟩
  cases hb0 : mcB xs
  · have HL : Hid (mmL xs = []) := by simp [Hid, mmL, hb0]
    have HB := Lib.hid hb0
    clear hb0
    go_wp2_with fail
    refine bodyPost_ret (v := .tuple #[.slice none 0 0, .bool false]) (by simp [results, Try.results34, go_sem]) rfl ?_
    exact gotI_no HL.out HB.out hb1
  · have HL : Hid (mmL xs = fmap (mmF xs) xs.length) := by simp [Hid, mmL, hb0]
    have h24 := mcB_len hb0
    have HV : Hid (∀ k, k < xs.length → 0 ≤ nth xs k ∧ nth xs k < (xs.length : Int)) := fun k hk => by
      obtain ⟨j, hj, e, _⟩ := mcB_at hb0 hk
      omega
    have HB := Lib.hid hb0
    clear hb0
    go_wp2_with (at_make; refine wpList_make_full _ rfl (.tmp 11) (.tmp 11) 22 rfl w1.heap.size 3 i0 (.int .i64 0) 1 Try.underlying22 hi hz0 hz1 .i64 .i64 _ _ xs.length rfl rfl rfl rfl (by rw [hz2]; omega) (by unfold maxLen; omega) (Nat.le_refl _) ?_; intro w3 hown hgrow)
    have b3 : Below w.heap.size w w3 := hb1.grown hgrow hb1.size (fun k h => by cases h)
    have hown0 := made_row (mkF xs 0) hown
    have e0 : rowF (mkF xs 0) xs.length 0 = fmap (mkF xs 0) xs.length := by
      apply List.ext_getElem (by rw [rowF_len _ (Nat.zero_le _), fmap_len])
      intro j h1 h2
      have hj : j < xs.length := by simpa [fmap_len] using h2
      simp only [rowF, fmap, List.range_zero, List.map_nil, List.nil_append, Nat.sub_zero, List.getElem_replicate, List.getElem_map, List.getElem_range, mkF]
      rw [if_neg (by omega)]
    rw [e0] at hown0
    obtain ⟨g, hg⟩ : ∃ g, g = w1.heap.size := ⟨_, rfl⟩
    have hgz : w.heap.size ≤ g := by have := hb1.size; omega
    have hown1 := hown0.mono hb1.size
    rw [← hg] at hown1 ⊢
    have HE : Hid (fmap (mkF xs xs.length) xs.length = fmap (mmF xs) xs.length) := fmap_cong (fun b hb => by rw [mkF, if_pos (by omega)])
    clear hown hgrow e0 hown0 hg hb1
    go_wp2_with fail
    go_loopw [18] (fun i wr => ∃ k : Nat, k ≤ xs.length ∧ i = .int .i64 k ∧ OwnI wr w.heap.size (.slice (some ⟨g, 0, none⟩) xs.length xs.length) (fmap (mkF xs k) xs.length) ∧ Below w.heap.size w wr) (fun i _ => xs.length - (intOf i).toNat)
    case atStart => exact ⟨0, Nat.zero_le _, rfl, hown1, b3⟩
    case round =>
      clear b3 hown1
      obtain ⟨k, hk, rfl, hown, hb⟩ := hrel
      by_cases hlt : k < xs.length
      · obtain ⟨b, off, rfl, hbl, hc⟩ := (hx.below hb).cell k hlt
        have ⟨v0, v1⟩ := HV.out k hlt
        obtain ⟨j, hj⟩ : ∃ j, j = xs.length - 1 - k := ⟨_, rfl⟩
        have hl0 : (fmap (mkF xs k) xs.length).length = xs.length := fmap_len _ _
        have ⟨cj, fj⟩ := hown.at' hl0.symm (i := j) (by omega)
        have hput := (hown.put hl0.symm j ((xs.length : Int) - 1 - nth xs k)).1
        have hset : (fmap (mkF xs k) xs.length).set j ((xs.length : Int) - 1 - nth xs k) = fmap (mkF xs (k+1)) xs.length := fmap_upd (by omega) (fun b hb => by
          simp only [mkF]
          by_cases e : b = j
          · rw [if_pos e, if_pos (by omega), mmF]
            rw [show xs.length - 1 - b = k by omega]
          · rw [if_neg e]
            by_cases h : xs.length - k ≤ b
            · rw [if_pos h, if_pos (by omega)]
            · rw [if_neg h, if_neg (by omega)])
        rw [hset] at hput
        have HP := Lib.hid hput
        have hcast : (xs.length : Int) - 1 - (k : Int) = (j : Int) := by omega
        have hj1 : (j : Int) < (xs.length : Int) := by omega
        clear hset hput hj hl0 hown
        go_wp2_with fail
        go_roundw
        case rel => exact ⟨k + 1, by omega, by go_num, by exact HP.out, hb.setCell (p := ⟨g, j, none⟩) hgz _⟩
        case measure => simp [intOf]; omega
      · obtain rfl : k = xs.length := by omega
        rw [HE.out] at hown
        go_wp2_with fail
        refine bodyPost_ret (v := .tuple #[.slice (some ⟨g, 0, none⟩) xs.length xs.length, .bool true]) (by simp [results, Try.results34, go_sem]) rfl ?_
        exact ⟨_, xs.length, by rw [HL.out, HB.out, fmap_len], by rw [HL.out, fmap_len]; exact hown, hb⟩

/-- the marks k, k + 1, .. -/
def marks (k : Int) (n : Nat) : List Int := (List.range n).map (fun (j : Nat) => k + (j : Int))
theorem marks_len (k : Int) (n : Nat) : (marks k n).length = n := by simp [marks]
theorem marks_nth {k : Int} {n j : Nat} (h : j < n) : nth (marks k n) j = k + j := by
  simp [nth, marks, h]
theorem mark_step (k : Int) (xs : List Int) (j : Nat) (h : j < xs.length) :
    ((marks k j ++ xs.drop j).map (Value.int .i64)).set j (.int .i64 (k + j)) = (marks k (j+1) ++ xs.drop (j+1)).map (Value.int .i64) := by
  apply List.ext_getElem?
  intro i
  rw [List.getElem?_set]
  by_cases hj : j = i
  · subst hj
    rw [if_pos rfl, if_pos (by simp [marks_len]; omega), List.getElem?_map, List.getElem?_append_left (by rw [marks_len]; omega)]
    simp [marks]
  · simp only [hj, if_false, List.getElem?_map, List.getElem?_append, marks_len, List.getElem?_drop]
    by_cases h1 : i < j
    · have h2 : i < j + 1 := by omega
      simp [h1, h2, marks]
    · have h2 : ¬ i < j + 1 := by omega
      have h3 : j + (i - j) = j + 1 + (i - (j + 1)) := by omega
      simp [h1, h2, h3]
theorem own_ne {v u : Value} (h : ∀ c, v.ownBlock = some c → u.ownBlock ≠ some c) : v.ownBlock = none ∨ v.ownBlock ≠ u.ownBlock := by
  cases hv : v.ownBlock with
  | none => exact .inl rfl
  | some c => exact .inr (fun e => h c hv e.symm)

theorem markIntS_any (a : Option Addr) (xs : List Int) (cap : Nat) (k : Int) (B : Nat) (w : World) (h0 : 0 ≤ k) (h1 : k ≤ 1099511627776) (hn : xs.length ≤ 1048576) (ho : OwnI w B (.slice a xs.length cap) xs) :
    Calls Try.prog 17 #[.slice a xs.length cap, .int .i64 k] w fun e w' => e = .returned (.int .i64 (k + xs.length)) ∧ OwnI w' B (.slice a xs.length cap) (marks k xs.length) ∧ w.grownBy w' (Value.slice a xs.length cap).ownBlock := by
  go_enter Try.func17, Try.ntmps17
  go_wp2_with fail
  go_loopw [1, 5] (fun k' i wr => ∃ j : Nat, j ≤ xs.length ∧ i = .int .i64 j ∧ k' = .int .i64 (k + j) ∧ wr.ownsRow B 3 1 (.slice a xs.length cap) xs.length ((marks k j ++ xs.drop j).map (Value.int .i64)) ∧ w.grownBy wr (Value.slice a xs.length cap).ownBlock) (fun _ i _ => xs.length - (intOf i).toNat)
  case atStart => exact ⟨0, Nat.zero_le _, rfl, by simp, by (have e : marks k 0 ++ xs.drop 0 = xs := by simp [marks]); rw [e]; exact ho, World.grownBy.refl _ _⟩
  case round =>
    obtain ⟨j, hj, rfl, rfl, hown, hg⟩ := hrel
    by_cases hlt : j < xs.length
    · obtain ⟨g, rfl⟩ : ∃ g, a = some ⟨g, 0, none⟩ := by
        rcases hown.2 with ⟨e, h⟩ | ⟨g, c, cur, e, _⟩
        · omega
        · simp only [Value.slice.injEq] at e
          exact ⟨g, e.1⟩
      have hst := World.ownsRow.stored hown j (.int .i64 (k + j))
      rw [mark_step k xs j hlt] at hst
      have hcc := World.ownsRow.cellAt hown j (by omega)
      have hfr := World.ownsRow.frozenAt hown j
      have hcc' : ∃ u, wr.cell? ⟨g, j, none⟩ = some u := by
        rw [hcc]
        exact ⟨_, List.getElem?_eq_getElem (by simp [marks_len]; omega)⟩
      obtain ⟨u, hu⟩ := hcc'
      have Hst := Lib.hid hst
      have Hg := Lib.hid (grown_trans hg hst.2)
      clear hst hcc hown hg
      go_wp2
      go_roundw
      case rel => exact ⟨j + 1, by omega, by go_num, by go_num, Hst.out.1, Hg.out⟩
      case measure => simp [intOf]; omega
    · obtain rfl : j = xs.length := by omega
      go_wp2
      go_ret
      refine ⟨rfl, ?_, hg⟩
      have e : marks k xs.length ++ xs.drop xs.length = marks k xs.length := by simp
      rw [e] at hown
      show World.ownsRow _ _ _ _ _ _ _
      rw [marks_len]
      exact hown

theorem heldIntS_any (a : Option Addr) (n cap : Nat) (k : Int) (w : World) (h0 : 0 ≤ k) (h1 : k ≤ 1099511627776) (hn : n ≤ 1048576) (hx : Rd w a (marks k n)) :
    Calls Try.prog 18 #[.slice a n cap, .int .i64 k] w fun e w' => e = .returned (.int .i64 (k + n)) ∧ Below w.heap.size w w' := by
  go_enter Try.func18, Try.ntmps18
  go_wp2_with fail
  go_loop [1, 5] (fun k' i => ∃ j : Nat, j ≤ n ∧ i = .int .i64 j ∧ k' = .int .i64 (k + j)) (fun _ i => n - (intOf i).toNat)
  case atStart => exact ⟨0, Nat.zero_le _, rfl, by simp⟩
  case round =>
    obtain ⟨j, hj, rfl, rfl⟩ := hrel
    by_cases hlt : j < n
    · obtain ⟨b, off, rfl, hbl, hc⟩ := hx.cell j (by rw [marks_len]; exact hlt)
      rw [marks_nth hlt] at hc
      go_wp2_with fail
      go_round
      case rel => exact ⟨j + 1, by omega, by go_num, by go_num⟩
      case measure => simp [intOf]; omega
    · obtain rfl : j = n := by omega
      go_wp2_with fail
      go_ret
      exact ⟨rfl, (by repeat (first | exact Below.refl _ _ | assumption | refine Below.alloc ?_ (by first | exact Nat.le_refl _ | (simp only [World.size_alloc, World.size_setCell, World.size_drew]; omega) | omega) _ | refine Below.setCell ?_ (by first | exact Nat.le_refl _ | (simp only [World.size_alloc, World.size_setCell, World.size_drew]; omega) | omega) _ | refine Below.drew ?_))⟩

theorem walk (a0 : Option Addr) (xs0 : List Int) (cap0 : Nat) (w : World) (hx0 : Rd w a0 xs0) :
    Calls Try.prog 9 #[.slice a0 xs0.length cap0] w fun e w' => e = .returned (.bool true) ∧ Below w.heap.size w w' := by
  have hR0 : (mmL xs0).length ≤ 1048576 := mmL_len xs0
  by_cases hs0 : 1048576 < (xs0.length : Int)
  · go_enter Try.func9, Try.ntmps9
    go_wp2_with fail
    go_ret
    exact ⟨rfl, (by repeat (first | exact Below.refl _ _ | assumption | refine Below.alloc ?_ (by first | exact Nat.le_refl _ | (simp only [World.size_alloc, World.size_setCell, World.size_drew]; omega) | omega) _ | refine Below.setCell ?_ (by first | exact Nat.le_refl _ | (simp only [World.size_alloc, World.size_setCell, World.size_drew]; omega) | omega) _ | refine Below.drew ?_))⟩
  go_enter Try.func9, Try.ntmps9
  go_wp2_with fail
  refine (toIntS_any _ _ _ _ (hx0.below (Below.refl _ _)) (by omega)).mono ?_
  rintro e w1 ⟨pT0, qT0, rfl, ho, hb⟩
  have ht : Below w.heap.size w w1 := Below.trans (by repeat (first | exact Below.refl _ _ | assumption | refine Below.alloc ?_ (by first | exact Nat.le_refl _ | (simp only [World.size_alloc, World.size_setCell, World.size_drew]; omega) | omega) _ | refine Below.setCell ?_ (by first | exact Nat.le_refl _ | (simp only [World.size_alloc, World.size_setCell, World.size_drew]; omega) | omega) _ | refine Below.drew ?_)) (hb.mono (by first | (simp only [World.size_alloc, World.size_setCell, World.size_drew]; omega) | omega))
  have z1 : w.heap.size ≤ w1.heap.size := ht.size
  have bw1 : Below w.heap.size w w1 := ht
  have T0_1 := ho
  have UT0 := T0_1.cut (Nat.le_refl _)
  clear ho
  clear ht hb
  go_wp2_with fail
  refine (sMirMt_any _ _ _ _ (T0_1.rd)).mono ?_
  rintro e w2 ⟨pR0, qR0, rfl, ho0, hb⟩
  have ht : Below w1.heap.size w1 w2 := hb
  have z2 : w1.heap.size ≤ w2.heap.size := ht.size
  have bw2 : Below w.heap.size w w2 := bw1.trans (ht.mono bw1.size)
  have T0_2 := T0_1.below ht (Nat.le_refl _)
  clear T0_1
  have R0_2 := ho0
  have UR0 := R0_2.cut (Nat.le_refl _)
  clear ho0
  clear ht hb
  go_wp2_with fail
  clear T0_2 UT0
  refine (toIntS_any _ _ _ _ (hx0.below bw2) (by omega)).mono ?_
  rintro e w3 ⟨pX0, qX0, rfl, ho, hb⟩
  have ht : Below w2.heap.size w2 w3 := hb
  have z3 : w2.heap.size ≤ w3.heap.size := ht.size
  have bw3 : Below w.heap.size w w3 := bw2.trans (ht.mono bw2.size)
  have R0_3 := R0_2.below ht (Nat.le_refl _)
  clear R0_2
  have X0_3 := ho
  have UX0 := X0_3.cut (Nat.le_refl _)
  clear ho
  clear ht hb
  go_wp2_with fail
  refine (iMirMt_any _ _ _ _ (X0_3.rd)).mono ?_
  rintro e w4 ⟨pG0, qG0, rfl, ho0, hb⟩
  have ht : Below w3.heap.size w3 w4 := hb
  have z4 : w3.heap.size ≤ w4.heap.size := ht.size
  have bw4 : Below w.heap.size w w4 := bw3.trans (ht.mono bw3.size)
  have R0_4 := R0_3.below ht (Nat.le_refl _)
  have X0_4 := X0_3.below ht (Nat.le_refl _)
  clear R0_3 X0_3
  have G0_4 := ho0
  have UG0 := G0_4.cut (Nat.le_refl _)
  clear ho0
  clear ht hb
  go_wp2_with fail
  refine (eqIntS_any _ _ (mmL xs0) (mmL xs0) _ _ _ (G0_4.rd) (R0_4.rd)).mono ?_
  rw [eqL_self]
  rintro e w5 ⟨rfl, hb⟩
  have ht : Below w4.heap.size w4 w5 := hb
  have z5 : w4.heap.size ≤ w5.heap.size := ht.size
  have bw5 : Below w.heap.size w w5 := bw4.trans (ht.mono bw4.size)
  have R0_5 := R0_4.below ht (Nat.le_refl _)
  have X0_5 := X0_4.below ht (Nat.le_refl _)
  have G0_5 := G0_4.below ht (Nat.le_refl _)
  clear R0_4 X0_4 G0_4
  clear ht hb
  go_wp2_with fail
  refine (toIntS_any _ _ _ _ (hx0.below bw5) (by omega)).mono ?_
  rintro e w6 ⟨pY0, qY0, rfl, ho, hb⟩
  have ht : Below w5.heap.size w5 w6 := hb
  have z6 : w5.heap.size ≤ w6.heap.size := ht.size
  have bw6 : Below w.heap.size w w6 := bw5.trans (ht.mono bw5.size)
  have R0_6 := R0_5.below ht (Nat.le_refl _)
  have X0_6 := X0_5.below ht (Nat.le_refl _)
  have G0_6 := G0_5.below ht (Nat.le_refl _)
  clear R0_5 X0_5 G0_5
  have Y0_6 := ho
  have UY0 := Y0_6.cut (Nat.le_refl _)
  clear ho
  clear ht hb
  go_wp2_with fail
  refine (eqIntS_any _ _ xs0 xs0 _ _ _ X0_6.rd Y0_6.rd).mono ?_
  rw [eqL_self]
  rintro e w7 ⟨rfl, hb⟩
  have ht : Below w6.heap.size w6 w7 := hb
  have z7 : w6.heap.size ≤ w7.heap.size := ht.size
  have bw7 : Below w.heap.size w w7 := bw6.trans (ht.mono bw6.size)
  have R0_7 := R0_6.below ht (Nat.le_refl _)
  have X0_7 := X0_6.below ht (Nat.le_refl _)
  have G0_7 := G0_6.below ht (Nat.le_refl _)
  have Y0_7 := Y0_6.below ht (Nat.le_refl _)
  clear R0_6 X0_6 G0_6 Y0_6
  clear ht hb
  go_wp2_with fail
  clear Y0_7 UY0
  refine (markIntS_any _ _ _ _ _ _ (by omega) (by omega) (by omega) X0_7).mono ?_
  rintro e w8 ⟨rfl, ho, hg⟩
  have z8 : w7.heap.size ≤ w8.heap.size := hg.size
  have bw8 : Below w.heap.size w w8 := bw7.trans (below_of_grown hg (fun b e => by have := UX0 b e; omega) (by omega))
  have R0_8 := R0_7.kept hg (own_ne (fun c e e2 => by have h1 := UR0 c e; have h2 := UX0 c e2; omega))
  have G0_8 := G0_7.kept hg (own_ne (fun c e e2 => by have h1 := UG0 c e; have h2 := UX0 c e2; omega))
  clear R0_7 X0_7 G0_7 hg
  have X0_8 := ho
  clear ho
  go_wp2_with fail
  refine (eqIntS_any _ _ (mmL xs0) (mmL xs0) _ _ _ (G0_8.rd) (R0_8.rd)).mono ?_
  rw [eqL_self]
  rintro e w9 ⟨rfl, hb⟩
  have ht : Below w8.heap.size w8 w9 := hb
  have z9 : w8.heap.size ≤ w9.heap.size := ht.size
  have bw9 : Below w.heap.size w w9 := bw8.trans (ht.mono bw8.size)
  have R0_9 := R0_8.below ht (Nat.le_refl _)
  have X0_9 := X0_8.below ht (Nat.le_refl _)
  have G0_9 := G0_8.below ht (Nat.le_refl _)
  clear R0_8 X0_8 G0_8
  clear ht hb
  go_wp2_with fail
  refine (markIntS_any _ _ _ _ _ _ (by omega) (by omega) hR0 G0_9).mono ?_
  rintro e w10 ⟨rfl, ho, hg⟩
  have z10 : w9.heap.size ≤ w10.heap.size := hg.size
  have bw10 : Below w.heap.size w w10 := bw9.trans (below_of_grown hg (fun b e => by have := UG0 b e; omega) (by omega))
  have R0_10 := R0_9.kept hg (own_ne (fun c e e2 => by have h1 := UR0 c e; have h2 := UG0 c e2; omega))
  have X0_10 := X0_9.kept hg (own_ne (fun c e e2 => by have h1 := UX0 c e; have h2 := UG0 c e2; omega))
  clear R0_9 X0_9 G0_9 hg
  have G0_10 := ho
  clear ho
  go_wp2_with fail
  refine (heldIntS_any _ _ _ _ _ (by omega) (by omega) hR0 G0_10.rd).mono ?_
  rintro e w11 ⟨rfl, hb⟩
  have ht : Below w10.heap.size w10 w11 := hb
  have z11 : w10.heap.size ≤ w11.heap.size := ht.size
  have bw11 : Below w.heap.size w w11 := bw10.trans (ht.mono bw10.size)
  have R0_11 := R0_10.below ht (Nat.le_refl _)
  have X0_11 := X0_10.below ht (Nat.le_refl _)
  have G0_11 := G0_10.below ht (Nat.le_refl _)
  clear R0_10 X0_10 G0_10
  clear ht hb
  go_wp2_with fail
  clear X0_11 UX0
  refine (toIntS_any _ _ _ _ (hx0.below bw11) (by omega)).mono ?_
  rintro e w12 ⟨pV0, qV0, rfl, ho, hb⟩
  have ht : Below w11.heap.size w11 w12 := hb
  have z12 : w11.heap.size ≤ w12.heap.size := ht.size
  have bw12 : Below w.heap.size w w12 := bw11.trans (ht.mono bw11.size)
  have R0_12 := R0_11.below ht (Nat.le_refl _)
  have G0_12 := G0_11.below ht (Nat.le_refl _)
  clear R0_11 G0_11
  have V0_12 := ho
  have UV0 := V0_12.cut (Nat.le_refl _)
  clear ho
  clear ht hb
  go_wp2_with fail
  refine (iMirMt_any _ _ _ _ (V0_12.rd)).mono ?_
  rintro e w13 ⟨pH0, qH0, rfl, ho0, hb⟩
  have ht : Below w12.heap.size w12 w13 := hb
  have z13 : w12.heap.size ≤ w13.heap.size := ht.size
  have bw13 : Below w.heap.size w w13 := bw12.trans (ht.mono bw12.size)
  have R0_13 := R0_12.below ht (Nat.le_refl _)
  have G0_13 := G0_12.below ht (Nat.le_refl _)
  have V0_13 := V0_12.below ht (Nat.le_refl _)
  clear R0_12 G0_12 V0_12
  have H0_13 := ho0
  have UH0 := H0_13.cut (Nat.le_refl _)
  clear ho0
  clear ht hb
  go_wp2_with fail
  clear V0_13 UV0
  refine (eqIntS_any _ _ (mmL xs0) (mmL xs0) _ _ _ (H0_13.rd) (R0_13.rd)).mono ?_
  rw [eqL_self]
  rintro e w14 ⟨rfl, hb⟩
  have ht : Below w13.heap.size w13 w14 := hb
  have z14 : w13.heap.size ≤ w14.heap.size := ht.size
  have bw14 : Below w.heap.size w w14 := bw13.trans (ht.mono bw13.size)
  have R0_14 := R0_13.below ht (Nat.le_refl _)
  have G0_14 := G0_13.below ht (Nat.le_refl _)
  have H0_14 := H0_13.below ht (Nat.le_refl _)
  clear R0_13 G0_13 H0_13
  clear ht hb
  go_wp2_with fail
  refine (heldIntS_any _ _ _ _ _ (by omega) (by omega) hR0 G0_14.rd).mono ?_
  rintro e w15 ⟨rfl, hb⟩
  have ht : Below w14.heap.size w14 w15 := hb
  have z15 : w14.heap.size ≤ w15.heap.size := ht.size
  have bw15 : Below w.heap.size w w15 := bw14.trans (ht.mono bw14.size)
  have R0_15 := R0_14.below ht (Nat.le_refl _)
  have G0_15 := G0_14.below ht (Nat.le_refl _)
  have H0_15 := H0_14.below ht (Nat.le_refl _)
  clear R0_14 G0_14 H0_14
  clear ht hb
  go_wp2_with fail
  go_ret
  exact ⟨rfl, bw15⟩

theorem rd_of_trod {H : Type} {enc : TypeId × Value → H} {W : World} {fuel : Nat} {c : Value} {y : DataW H × List MemPlace}
    (h : DataW.trod enc Try.prog W 0 (fun _ => true) true fuel 22 [c] = some y) : ∃ (a : Option Addr) (xs : List Int) (cap : Nat), c = .slice a xs.length cap ∧ Rd W a xs ∧ ∀ k, k < xs.length → (Lit.int .i64 (nth xs k)).wf = true := by
  rcases Go.ChangeShapes.open_ints Try.underlying22 Try.underlying3 (by kernel_rfl) h with ⟨hcs, _⟩ | ⟨x, len, cap, zs, hcs, _, hl, hm, hz, _, hcell, hwf⟩
  · simp only [List.cons.injEq, and_true] at hcs
    exact ⟨none, [], 0, hcs, ⟨by simp, fun k hk => by simp at hk⟩, fun k hk => by simp at hk⟩
  · simp only [List.cons.injEq, and_true] at hcs
    simp only [if_true] at hz
    have hlen : (zs.take len).length = len := by rw [List.length_take]; omega
    have hn : ∀ k, k < len → nth (zs.take len) k = zs.getD k 0 := by
      intro k hk
      simp only [nth, List.getD_eq_getElem?_getD, List.getElem?_take, hk, if_true]
    refine ⟨some x, zs.take len, cap, by rw [hlen]; exact hcs, ⟨by rw [hlen]; unfold maxLen at hm; omega, fun k hk => ?_⟩, fun k hk => ?_⟩
    · rw [hlen] at hk
      obtain ⟨b, off, sp⟩ := x
      have h0 := hcell 0 (by omega)
      have hsp : sp = none := by simpa [Addr.add] using World.cell?_spot h0
      subst hsp
      have hk' := hcell k (by omega)
      rw [Addr.add_lit] at hk'
      exact ⟨b, off, rfl, World.block_lt_of_cell? _ _ h0, by rw [hk', hn k hk]⟩
    · rw [hlen] at hk
      rw [hn k hk]
      have hk2 : k < zs.length := by omega
      exact hwf _ (by rw [List.getD_eq_getElem?_getD, List.getElem?_eq_getElem hk2]; exact List.getElem_mem hk2)

theorem own : ownKnob Try.prog.godebug = none := by kernel_rfl
theorem laidOut : laidOutB Try.prog = true := by kernel_rfl
theorem wf_bd {n : Int} (h : (Lit.int .i64 n).wf = true) : -9223372036854775808 ≤ n ∧ n ≤ 9223372036854775807 := by
  simp [Lit.wf, IntKind.min, IntKind.max, IntKind.bits, IntKind.signed] at h
  omega

open Go.ChangeShapes Go.WideShapes Go.ChangeAt Go.RowKit in
set_option maxRecDepth 100000 in
theorem lifted (os : Os) (started : os.Started) (H : Type) (enc : TypeId × Value → H) :
    ReturnsInHanded {} Try.checked os 9 .any (Rows.fnExactMirrorMatchingSpec.pre6 enc Try.prog Try.f9 Rows.fnExactMirrorMatchingRow.domain false) (Rows.fnExactMirrorMatchingSpec.post enc Try.prog Try.f9 false true false false) := by
  refine returnsInHanded_of_change (C := Try.checked) own started (by kernel_rfl) Try.func9
    (ChangeSpec.witness6 (enc := enc) (C := Try.checked) false ⟨#[], #[.slice none 0 0], []⟩ 8 (by kernel_rfl) (by kernel_rfl) (by kernel_rfl) (by kernel_rfl)) ?_
  intro W base args ds gs before hval0 hW hcnd _
  have hval : ∀ (j : Nat) t v, Try.f9.params[j]? = some t → args[j]? = some v → Value.okWide Try.prog W .any base t v := hval0
  have hW' := hW
  obtain ⟨p, q, hA0, hV, rfl, hfz, hnd⟩ := hW
  have hA : DataW.TrodAll enc Try.prog W 0 (fun _ => true) true Try.f9.params.toList args.toList ds p := hA0
  rw [Try.params9] at hA hval
  obtain ⟨v0, vs0, d0, ds0, p0, q0, hargs, rfl, rfl, h0, r0⟩ := trodAll_cons hA
  obtain ⟨rfl, rfl, rfl⟩ := trodAll_nil r0
  obtain rfl : args = #[v0] := by cases args; simp_all
  obtain ⟨rfl, rfl⟩ := trodVars_none hV
  have lt0 : ∀ x ∈ p0, x.block < W.heap.size := by obtain ⟨m, hm⟩ := h0; exact DataW.trod_lt m _ _ _ hm
  obtain ⟨a0, len0, cap0, rfl⟩ := okWide_slice Try.underlying22 (hval 0 22 v0 rfl rfl)
  obtain ⟨a0, xs0, cap0, e0, rd0, wl0⟩ := (by obtain ⟨fu, hf⟩ := h0; simp only [Value.cells] at hf; exact rd_of_trod hf : ∃ (a : Option Addr) (xs : List Int) (cap : Nat), Value.slice a0 len0 cap0 = .slice a xs.length cap ∧ Rd W a xs ∧ ∀ k, k < xs.length → (Lit.int .i64 (nth xs k)).wf = true)
  simp only [Value.slice.injEq] at e0
  obtain ⟨rfl, rfl, rfl⟩ := e0
  clear hA0 hval0
  refine (walk a0 xs0 cap0 W rd0).mono fun e W' ⟨he, bel⟩ => ?_
  subst he
  exact ⟨_, rfl, _, _, _, [], _, [], hW', trodAll_mk1 (shut_bool Try.underlying4 _), (trodAll_cons_mk (Below.trod laidOut (by kernel_rfl) (of_decide_eq_true (by kernel_rfl)) h0 bel lt0) trodAll_mk0), rfl, bel.frame _, fun h => by cases h⟩
theorem proved : Rows.FnExactMirrorMatchingSaid :=
  OpenClaim.holds_of_wide 9 Try.f9 rfl rfl rfl rfl rfl rfl rfl ⟨rfl, rfl, rfl, rfl, rfl⟩ rfl rfl rfl rfl rfl (by kernel_rfl) Try.func9 (by kernel_rfl)
    (of_decide_eq_true (by kernel_rfl)) (by unfold Func.isWrapper; first | (rw [if_pos (by decide +kernel)]; kernel_rfl) | (rw [if_neg (by decide +kernel)]; exact ⟨rfl, rfl⟩))
    (fun os started H enc _ => lifted os started H enc)

end Go.Proofs.Ytfjfnbdoiadapaa.mirrorMatching
