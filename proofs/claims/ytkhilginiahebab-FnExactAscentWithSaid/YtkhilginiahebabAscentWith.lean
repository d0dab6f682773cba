/- PROVED: the law FnExactAscentWith returns true for every input, and each of its arguments reads afterwards as before. No conditions. -/
import Derived.Test.YtkhilginiahebabRows
import Derived.WalkKit
import Derived.WalkSpells
import Derived.WalkLawsBesides
import Derived.Deep.QuietTactic
import Derived.BigQuiet
import Derived.ProofKit
import Derived.OpenShut
import Derived.ShutString
import Derived.ChangeOld
import Derived.Below
import Derived.Lib.SmallJoins
import Derived.Lib.Hide
import Derived.Maps.AppendAt
import Derived.Deep.AppendLies
import Derived.Maps.OwnSet
import Derived.Maps.OwnOps
import Derived.DeepKeys4
import Derived.Deep.RegionLaw
import Derived.Carry
import Derived.Deep.RegionHeld3
namespace Go.Proofs.Ytkhilginiahebab.ascentWith
open Go Go.RowKit
set_option linter.unusedVariables false
set_option linter.unusedSimpArgs false
set_option maxHeartbeats 400000
open Go.Maps Go.WideMaps
open Go.WideElems (Fit)


/-- a number of a list; a plain function, which the walk leaves alone -/
def nth (xs : List Int) (k : Nat) : Int := xs.getD k 0
theorem nth_get (xs : List Int) (k : Nat) (h : k < xs.length) : nth xs k = xs[k] := by simp [nth, h]
/-- the slice at an address reads as a list -/
structure Rd (w : World) (a : Option Addr) (xs : List Int) : Prop where
  len : xs.length ≤ 9223372036854775807
  cell : ∀ k, k < xs.length → ∃ b off, a = some ⟨b, off, none⟩ ∧ b < w.heap.size ∧ w.cell? ⟨b, off + k, none⟩ = some (.int .i64 (nth xs k))
theorem Rd.below {w w' : World} {a : Option Addr} {xs : List Int} (h : Rd w a xs) (hb : Below w.heap.size w w') : Rd w' a xs :=
  ⟨h.len, fun k hk => by
    obtain ⟨b, off, e, hl, hc⟩ := h.cell k hk
    exact ⟨b, off, e, Nat.lt_of_lt_of_le hl hb.size, (hb.cell (World.block_lt_of_cell? _ _ hc)).trans hc⟩⟩
theorem Rd.mid {w w1 w2 : World} {a : Option Addr} {xs : List Int} {B : Nat} (h : Rd w a xs) (hb : Below B w1 w2) (hB : w.heap.size ≤ B) (h1 : Rd w1 a xs) : Rd w2 a xs :=
  ⟨h.len, fun k hk => by
    obtain ⟨b, off, e, hl, hc⟩ := h.cell k hk
    obtain ⟨b', off', e', hl', hc'⟩ := h1.cell k hk
    rw [e] at e'
    simp only [Option.some.injEq, Addr.mk.injEq, and_true] at e'
    obtain ⟨rfl, rfl⟩ := e'
    exact ⟨b, off, e, Nat.lt_of_lt_of_le hl' hb.size, (hb.cell (by show b < B; omega)).trans hc'⟩⟩
theorem Rd.alloc {w : World} {a : Option Addr} {xs : List Int} (h : Rd w a xs) (o : Obj) : Rd (w.alloc o) a xs :=
  h.below ((Below.refl _ _).alloc (Nat.le_refl _) o)
theorem Rd.same {w w' : World} {a : Option Addr} {xs : List Int} (h : Rd w a xs) (hs : w.heap.size ≤ w'.heap.size)
    (hb : ∀ b off, a = some ⟨b, off, none⟩ → w'.heap[b]? = w.heap[b]?) : Rd w' a xs :=
  ⟨h.len, fun k hk => by
    obtain ⟨b, off, e, hl, hc⟩ := h.cell k hk
    exact ⟨b, off, e, Nat.lt_of_lt_of_le hl hs, (World.cell?_of_block (w := w) (a := ⟨b, off + k, none⟩) (hb b off e)).trans hc⟩⟩
/-- a slice value that owns the row of these integers, in a block from B on -/
def OwnI (w : World) (B : Nat) (v : Value) (xs : List Int) : Prop := w.ownsRow B 3 1 v xs.length (xs.map (Value.int .i64))
theorem OwnI.form {w : World} {B : Nat} {v : Value} {xs : List Int} (h : OwnI w B v xs) : ∃ a cap, v = .slice a xs.length cap := by
  rcases h.2 with ⟨rfl, h0⟩ | ⟨g, cap, cur, rfl, _⟩
  · exact ⟨none, 0, by rw [h0]⟩
  · exact ⟨_, _, rfl⟩
theorem OwnI.rd {w : World} {B n cap : Nat} {a : Option Addr} {xs : List Int} (h : OwnI w B (.slice a n cap) xs) : Rd w a xs := by
  rcases h.2 with ⟨e, h0⟩ | ⟨g, cap', cur, e, hb, hg, hn, hm, hs, ht⟩
  · exact ⟨by omega, fun k hk => by omega⟩
  · simp only [Value.slice.injEq] at e
    obtain ⟨rfl, rfl, rfl⟩ := e
    refine ⟨by unfold maxLen at hm; omega, fun k hk => ⟨g, 0, rfl, (Array.getElem?_eq_some_iff.1 hg).1, ?_⟩⟩
    have := World.ownsRow.cellAt h k (by omega)
    rw [Nat.zero_add, this]
    simp [nth, hk]
theorem OwnI.blk {w : World} {B n cap : Nat} {a : Option Addr} {xs : List Int} (h : OwnI w B (.slice a n cap) xs) : ∀ b off s, a = some ⟨b, off, s⟩ → B ≤ b ∧ b < w.heap.size := by
  intro b off s e
  subst e
  exact World.ownsRow.lt h b rfl
theorem OwnI.kept {w w' : World} {B : Nat} {v : Value} {xs : List Int} {row : Option Nat} (h : OwnI w B v xs) (hg : w.grownBy w' row) (hne : v.ownBlock = none ∨ v.ownBlock ≠ row) : OwnI w' B v xs := World.ownsRow.kept h hg hne
theorem OwnI.mono {w : World} {B B' : Nat} {v : Value} {xs : List Int} (h : OwnI w B v xs) (hB : B' ≤ B) : OwnI w B' v xs := by
  refine ⟨h.1, ?_⟩
  rcases h.2 with hn | ⟨g, cap, cur, e, hb, rest⟩
  · exact .inl hn
  · exact .inr ⟨g, cap, cur, e, by omega, rest⟩
theorem OwnI.below {w w' : World} {B B' : Nat} {v : Value} {xs : List Int} (h : OwnI w B v xs) (hb : Below B' w w') (hB : w.heap.size ≤ B') : OwnI w' B v xs := by
  refine ⟨h.1, ?_⟩
  rcases h.2 with hn | ⟨g, cap, cur, e, hb', hg, rest⟩
  · exact .inl hn
  · refine .inr ⟨g, cap, cur, e, hb', ?_, rest⟩
    rw [hb.block g (by have := (Array.getElem?_eq_some_iff.1 hg).1; omega)]
    exact hg
theorem ret_bool {a b : Bool} (h : a = b) : Ending.returned (.bool a) = .returned (.bool b) := by rw [h]
theorem ret_int {a b : Int} (h : a = b) : Ending.returned (.int .i64 a) = .returned (.int .i64 b) := by rw [h]
theorem val_int {a b : Int} (h : a = b) : Value.int .i64 a = .int .i64 b := by rw [h]
theorem grown_below {w w' : World} {g : Nat} (h : w.grownBy w' (some g)) (B : Nat) (hB : B ≤ g) (hs : B ≤ w.heap.size) : Below B w w' :=
  ⟨h.os, h.tape, h.output, h.size, fun k hk => h.block k (by omega) (by intro e; simp only [Option.some.injEq] at e; omega)⟩
theorem below_grown {w w' : World} {B : Nat} (h : Below B w w') (hB : w.heap.size ≤ B) (row : Option Nat) : w.grownBy w' row :=
  ⟨h.os, h.tape, h.output, h.size, fun k hk _ => h.block k (by omega)⟩
theorem bcell {W w1 : World} (hb : Below W.heap.size W w1) : (∀ b o, b < W.heap.size → w1.cell? ⟨b, o, none⟩ = W.cell? ⟨b, o, none⟩) ∧ (∀ b o, b < W.heap.size → w1.frozen? ⟨b, o, none⟩ = W.frozen? ⟨b, o, none⟩) :=
  ⟨fun b o h => hb.cell (p := ⟨b, o, none⟩) h, fun b o h => hb.frozen (p := ⟨b, o, none⟩) h⟩
theorem infoInt : (Try.prog.info? 3).map (fun i => (i.zero, i.size, i.bytes)) = some (some (.int .i64 0), 1, 8) := by kernel_rfl
theorem OwnI.setBelow {w : World} {B : Nat} {v : Value} {xs : List Int} (h : OwnI w B v xs) {p : Addr} (hp : p.block < B) (u : Value) : OwnI (w.setCell p u) B v xs := ownsRow_setCell_below h hp u
theorem OwnI.alloc {w : World} {B : Nat} {v : Value} {xs : List Int} (h : OwnI w B v xs) (o : Obj) : OwnI (w.alloc o) B v xs := h.below ((Below.refl _ _).alloc (Nat.le_refl _) o) (Nat.le_refl _)
theorem Below.mono' {B B' : Nat} {w w' : World} (h : Below B w w') (hB : B' ≤ B) : Below B' w w' := h.mono hB
/-- a block that holds two cells -/
def Box2 (w : World) (b : Nat) (u v : Value) : Prop := b < w.heap.size ∧ w.cell? ⟨b, 0, none⟩ = some u ∧ w.cell? ⟨b, 1, none⟩ = some v
theorem Box2.below {w w' : World} {b : Nat} {u v : Value} (h : Box2 w b u v) (hb : Below w.heap.size w w') : Box2 w' b u v :=
  ⟨Nat.lt_of_lt_of_le h.1 hb.size, (hb.cell (p := ⟨b, 0, none⟩) h.1).trans h.2.1, (hb.cell (p := ⟨b, 1, none⟩) h.1).trans h.2.2⟩
theorem Box2.new (w : World) (u v : Value) (t : TypeId) : Box2 (w.alloc (.cells #[u, v] t)) w.heap.size u v :=
  ⟨by simp, by simp, by simp⟩
theorem Box2.kept {w w' : World} {b : Nat} {u v : Value} {row : Option Nat} (h : Box2 w b u v) (hg : w.grownBy w' row) (hne : some b ≠ row) : Box2 w' b u v :=
  ⟨Nat.lt_of_lt_of_le h.1 hg.size, hg.cell h.2.1 hne, hg.cell h.2.2 hne⟩
theorem OwnI.lt {w : World} {B : Nat} {v : Value} {xs : List Int} (h : OwnI w B v xs) : ∀ b, v.ownBlock = some b → B ≤ b ∧ b < w.heap.size := World.ownsRow.lt h
theorem OwnI.cut {w : World} {B : Nat} {v : Value} {xs : List Int} (h : OwnI w B v xs) {U : Nat} (hU : w.heap.size ≤ U) : ∀ b, v.ownBlock = some b → B ≤ b ∧ b < U := fun b e => ⟨(h.lt b e).1, Nat.lt_of_lt_of_le (h.lt b e).2 hU⟩
/-- a block of two cells that may be written -/
def Var2 (w : World) (b : Nat) (u v : Value) : Prop := Box2 w b u v ∧ w.frozen? ⟨b, 0, none⟩ = false ∧ w.frozen? ⟨b, 1, none⟩ = false
theorem Var2.below {w w' : World} {b : Nat} {u v : Value} (h : Var2 w b u v) (hb : Below w.heap.size w w') : Var2 w' b u v :=
  ⟨h.1.below hb, (hb.frozen (p := ⟨b, 0, none⟩) h.1.1).trans h.2.1, (hb.frozen (p := ⟨b, 1, none⟩) h.1.1).trans h.2.2⟩
theorem Var2.new (w : World) (u v : Value) (t : TypeId) : Var2 (w.alloc (.cells #[u, v] t)) w.heap.size u v :=
  ⟨Box2.new w u v t, by simp, by simp⟩
theorem Var2.alloc {w : World} {b : Nat} {u v : Value} (h : Var2 w b u v) (o : Obj) : Var2 (w.alloc o) b u v := h.below ((Below.refl _ _).alloc (Nat.le_refl _) o)
theorem Var2.kept {w w' : World} {b : Nat} {u v : Value} {row : Option Nat} (h : Var2 w b u v) (hg : w.grownBy w' row) (hne : some b ≠ row) : Var2 w' b u v :=
  ⟨h.1.kept hg hne, (World.frozen?_of_block (w := w) (a := ⟨b, 0, none⟩) (hg.block b h.1.1 hne)).trans h.2.1, (World.frozen?_of_block (w := w) (a := ⟨b, 1, none⟩) (hg.block b h.1.1 hne)).trans h.2.2⟩
theorem Var2.set {w : World} {b : Nat} {u v : Value} (h : Var2 w b u v) (u' v' : Value) : Var2 ((w.setCell ⟨b, 0, none⟩ u').setCell ⟨b, 1, none⟩ v') b u' v' := by
  refine ⟨⟨by simpa using h.1.1, ?_, ?_⟩, by simpa using h.2.1, by simpa using h.2.2⟩
  · rw [World.cell?_setCell_other _ _ _ _ (by simp), World.cell?_setCell_same _ _ _ h.1.2.1]
  · rw [World.cell?_setCell_same _ _ _ (u := v) (by rw [World.cell?_setCell_other _ _ _ _ (by simp)]; exact h.1.2.2)]
theorem grown_set (w : World) (p : Addr) (u : Value) : w.grownBy (w.setCell p u) (some p.block) :=
  ⟨rfl, rfl, rfl, by simp, fun k hk hn => Below.heap_setCell w p u k (fun e => hn (by rw [e]))⟩
theorem Var2.set1 {w : World} {b : Nat} {u v : Value} (h : Var2 w b u v) (v' : Value) : Var2 (w.setCell ⟨b, 1, none⟩ v') b u v' := by
  refine ⟨⟨by simpa using h.1.1, ?_, ?_⟩, by simpa using h.2.1, by simpa using h.2.2⟩
  · rw [World.cell?_setCell_other _ _ _ _ (by simp)]; exact h.1.2.1
  · rw [World.cell?_setCell_same _ _ _ h.1.2.2]
theorem Box2.set {w : World} {b : Nat} {u v : Value} (h : Box2 w b u v) {p : Addr} (x : Value) (hne : b ≠ p.block) : Box2 (w.setCell p x) b u v :=
  h.kept (grown_set w p x) (by simpa using hne)
theorem Var2.other {w : World} {b : Nat} {u v : Value} (h : Var2 w b u v) {p : Addr} (x : Value) (hne : b ≠ p.block) : Var2 (w.setCell p x) b u v :=
  h.kept (grown_set w p x) (by simpa using hne)
theorem ne_own {v : Value} {b : Nat} (h : ∀ c, v.ownBlock = some c → c ≠ b) : some b ≠ v.ownBlock := fun e => h b e.symm rfl
theorem grown_alloc_set {w w1 : World} {r : Option Nat} {o : Obj} (h : (w.alloc o).grownBy w1 r) : w.grownBy w1 r :=
  ⟨h.os, h.tape, h.output, by have := h.size; simp at this; omega, fun k hk hn => (h.block k (by simp; omega) hn).trans (Below.heap_alloc w o k hk)⟩
theorem grown_trans {w w1 w2 : World} {r : Option Nat} (h1 : w.grownBy w1 r) (h2 : w1.grownBy w2 r) : w.grownBy w2 r :=
  ⟨h2.os.trans h1.os, h2.tape.trans h1.tape, h2.output.trans h1.output, Nat.le_trans h1.size h2.size, fun k hk hn => (h2.block k (by have := h1.size; omega) hn).trans (h1.block k hk hn)⟩
theorem OwnI.nil (w : World) (B : Nat) : OwnI w B (.slice none 0 0) [] := World.ownsRow_nil _ _ _ _
theorem below_of_grown {w w' : World} {v : Value} {B : Nat} (hg : w.grownBy w' v.ownBlock) (hB : ∀ b, v.ownBlock = some b → B ≤ b) (hs : B ≤ w.heap.size) : Below B w w' :=
  ⟨hg.os, hg.tape, hg.output, hg.size, fun k hk => hg.block k (by omega) (fun e => by have := hB k e.symm; omega)⟩

def inB (n lo hi : Int) : Bool := decide (lo ≤ n) && decide (n ≤ hi)
theorem inB_iff {n lo hi : Int} : inB n lo hi = true ↔ lo ≤ n ∧ n ≤ hi := by simp [inB]
theorem inB_no {n lo hi : Int} : inB n lo hi = false ↔ n < lo ∨ hi < n := by
  rw [← Bool.not_eq_true, inB_iff]
  omega

theorem OwnI.capLe {w : World} {B n cap : Nat} {a : Option Addr} {xs : List Int} (h : OwnI w B (.slice a n cap) xs) : n ≤ cap := by
  rcases h.2 with ⟨e, _⟩ | ⟨g, cap', cur, e, _, _, hc, _⟩
  · simp only [Value.slice.injEq] at e
    omega
  · simp only [Value.slice.injEq] at e
    omega
theorem Rd.take {w : World} {a : Option Addr} {xs : List Int} (h : Rd w a xs) (k : Nat) : Rd w a (xs.take k) :=
  ⟨Nat.le_trans (by rw [List.length_take]; exact Nat.min_le_right _ _) h.len, fun j hj => by
    have hj' : j < xs.length ∧ j < k := by rw [List.length_take] at hj; omega
    obtain ⟨b, off, e, hl, hc⟩ := h.cell j hj'.1
    refine ⟨b, off, e, hl, hc.trans ?_⟩
    simp [nth, List.getD_eq_getElem?_getD, List.getElem?_take, hj'.2]⟩

theorem wrap64_small (n : Int) (h0 : -9223372036854775808 ≤ n) (h1 : n ≤ 9223372036854775807) : IntKind.i64.wrap n = n := by
  simp only [IntKind.wrap, IntKind.bits, IntKind.signed]
  simp
  omega
theorem i64_wrap (n : Int) : IntKind.i64.wrap n = wrap64 n := IntWalk.i64_left n
theorem ofInt_i64 (a : Nat) (ha : a < 9223372036854775808) : (BitVec.ofInt 64 (a : Int)).toNat = a := by
  simp
  omega
theorem and_nat (a b : Nat) (ha : a < 9223372036854775808) (hb : b < 9223372036854775808) : bits .and .i64 (a : Int) (b : Int) = ((a &&& b : Nat) : Int) := by
  have hx : a &&& b < 2 ^ 63 := Nat.and_lt_two_pow _ (by omega)
  show IntKind.i64.wrap ((BitVec.ofInt 64 (a : Int) &&& BitVec.ofInt 64 (b : Int)).toNat : Int) = _
  rw [BitVec.toNat_and, ofInt_i64 a ha, ofInt_i64 b hb, wrap64_small _ (by omega) (by omega)]
theorem or_nat (a b : Nat) (ha : a < 9223372036854775808) (hb : b < 9223372036854775808) : bits .or .i64 (a : Int) (b : Int) = ((a ||| b : Nat) : Int) := by
  have hx : a ||| b < 2 ^ 63 := Nat.or_lt_two_pow (by omega) (by omega)
  show IntKind.i64.wrap ((BitVec.ofInt 64 (a : Int) ||| BitVec.ofInt 64 (b : Int)).toNat : Int) = _
  rw [BitVec.toNat_or, ofInt_i64 a ha, ofInt_i64 b hb, wrap64_small _ (by omega) (by omega)]
/-- a set without the elements of another one -/
def sub (a b : Nat) : Nat := a ^^^ (a &&& b)
theorem testBit_sub (a b i : Nat) : (sub a b).testBit i = (a.testBit i && !b.testBit i) := by
  simp [sub, Nat.testBit_xor, Nat.testBit_and]
  cases a.testBit i <;> cases b.testBit i <;> rfl
theorem sub_lt {a b n : Nat} (h : a < 2 ^ n) : sub a b < 2 ^ n := by
  unfold sub
  exact Nat.xor_lt_two_pow h (by rw [Nat.and_comm]; exact Nat.and_lt_two_pow _ h)
theorem sub_nat (a b : Nat) (ha : a < 9223372036854775808) (hb : b < 9223372036854775808) : bits .andNot .i64 (a : Int) (b : Int) = ((sub a b : Nat) : Int) := by
  have hs : sub a b < 2 ^ 63 := sub_lt (by omega)
  show IntKind.i64.wrap ((BitVec.ofInt 64 (a : Int) &&& ~~~BitVec.ofInt 64 (b : Int)).toNat : Int) = _
  have e : (BitVec.ofInt 64 (a : Int) &&& ~~~BitVec.ofInt 64 (b : Int)).toNat = sub a b := by
    apply Nat.eq_of_testBit_eq
    intro i
    rw [BitVec.testBit_toNat, BitVec.getLsbD_and, BitVec.getLsbD_not, testBit_sub, ← BitVec.testBit_toNat, ← BitVec.testBit_toNat, ofInt_i64 a ha, ofInt_i64 b hb]
    by_cases hi : i < 64
    · simp [hi]
    · have : a.testBit i = false := Nat.testBit_lt_two_pow (Nat.lt_of_lt_of_le (by omega : a < 2 ^ 64) (Nat.pow_le_pow_right (by omega) (by omega)))
      simp [this]
  rw [e, wrap64_small _ (by omega) (by omega)]
theorem shr_nat (s i : Nat) (hs : s < 9223372036854775808) : (s : Int) / (2 ^ min i 64) = ((s >>> i : Nat) : Int) := by
  rw [Nat.shiftRight_eq_div_pow]
  by_cases h : i ≤ 64
  · rw [Nat.min_eq_left h]
    simp
  · rw [Nat.min_eq_right (by omega)]
    have : 2 ^ 64 ≤ 2 ^ i := Nat.pow_le_pow_right (by omega) (by omega)
    rw [Nat.div_eq_of_lt (by omega)]
    omega
theorem bit_and (s i : Nat) (hs : s < 9223372036854775808) : (bits .and .i64 ((s >>> i : Nat) : Int) 1 == 1) = s.testBit i := by
  have h1 : s >>> i ≤ s := by rw [Nat.shiftRight_eq_div_pow]; exact Nat.div_le_self _ _
  have := and_nat (s >>> i) 1 (by omega) (by omega)
  rw [show ((1 : Nat) : Int) = 1 from rfl] at this
  rw [this, Nat.testBit, Nat.and_one_is_mod, Nat.and_comm, Nat.and_one_is_mod]
  rcases Nat.mod_two_eq_zero_or_one (s >>> i) with h | h <;> simp [h]
theorem bit_mod (s i : Nat) : (((s >>> i : Nat) : Int) % 2 == 1) = s.testBit i := by
  rw [Nat.testBit, Nat.and_comm, Nat.and_one_is_mod]
  rcases Nat.mod_two_eq_zero_or_one (s >>> i) with h | h
  · have h2 : ((s >>> i : Nat) : Int) % 2 = 0 := by omega
    rw [h2, h]; rfl
  · have h2 : ((s >>> i : Nat) : Int) % 2 = 1 := by omega
    rw [h2, h]; rfl
theorem bit_tmod (s i : Nat) : (((s >>> i : Nat) : Int).tmod 2 == 1) = s.testBit i := by
  rw [Int.tmod_eq_emod_of_nonneg (Int.natCast_nonneg _), bit_mod]
/-- is i in the set s? -/
def hasB (s i : Int) : Bool := s.toNat.testBit i.toNat
theorem has_and {s i : Int} (h0 : 0 ≤ s) (h1 : s ≤ 9223372036854775807) (hi : 0 ≤ i) : (bits .and .i64 (s / 2 ^ min i.toNat 64) 1 == 1) = hasB s i := by
  obtain ⟨S, rfl⟩ := Int.eq_ofNat_of_zero_le h0
  rw [shr_nat S _ (by omega), bit_and S _ (by omega)]
  rfl
theorem has_mod {s i : Int} (h0 : 0 ≤ s) (h1 : s ≤ 9223372036854775807) (hi : 0 ≤ i) : ((s / 2 ^ min i.toNat 64).tmod 2 == 1) = hasB s i := by
  obtain ⟨S, rfl⟩ := Int.eq_ofNat_of_zero_le h0
  rw [shr_nat S _ (by omega), bit_tmod S]
  rfl
theorem pow_w {k : Nat} (h : k < 62) : wrap64 (2 ^ k) = ((2 ^ k : Nat) : Int) := by
  have : 2 ^ k ≤ 2 ^ 61 := Nat.pow_le_pow_right (by omega) (by omega)
  rw [show ((2:Int) ^ k) = ((2 ^ k : Nat) : Int) by simp]
  generalize hp : 2 ^ k = p at *
  exact IntWalk.wrap64_in _ ⟨by omega, by omega⟩
theorem or_bit {b k : Nat} (hb : b < 4611686018427387904) (hk : k < 62) : bits .or .i64 (b : Int) (wrap64 (2 ^ k)) = ((b ||| 2 ^ k : Nat) : Int) := by
  rw [pow_w hk]
  have : 2 ^ k ≤ 2 ^ 61 := Nat.pow_le_pow_right (by omega) (by omega)
  exact or_nat _ _ (by omega) (by omega)
theorem or_i {a b : Int} (ha : 0 ≤ a) (ha1 : a < 9223372036854775808) (hb : 0 ≤ b) (hb1 : b < 9223372036854775808) : bits .or .i64 a b = ((a.toNat ||| b.toNat : Nat) : Int) := by
  obtain ⟨A, rfl⟩ := Int.eq_ofNat_of_zero_le ha
  obtain ⟨B, rfl⟩ := Int.eq_ofNat_of_zero_le hb
  exact or_nat A B (by omega) (by omega)
theorem sub_i {a b : Int} (ha : 0 ≤ a) (ha1 : a < 9223372036854775808) (hb : 0 ≤ b) (hb1 : b < 9223372036854775808) : bits .andNot .i64 a b = ((sub a.toNat b.toNat : Nat) : Int) := by
  obtain ⟨A, rfl⟩ := Int.eq_ofNat_of_zero_le ha
  obtain ⟨B, rfl⟩ := Int.eq_ofNat_of_zero_le hb
  exact sub_nat A B (by omega) (by omega)
theorem or_lt {a b n : Nat} (ha : a < 2 ^ n) (hb : b < 2 ^ n) : a ||| b < 2 ^ n := Nat.or_lt_two_pow ha hb
theorem two_lt {k n : Nat} (h : k < n) : 2 ^ k < 2 ^ n := Nat.pow_lt_pow_right (by omega) h
theorem testBit_two (k i : Nat) : (2 ^ k).testBit i = decide (k = i) := Nat.testBit_two_pow

/-- is the number at i behind an ascent? -/
def riseB (xs : List Int) (i : Nat) : Bool := decide (0 < i) && decide (nth xs (i-1) < nth xs i)
theorem riseB_iff {xs : List Int} {i : Nat} : riseB xs i = true ↔ 0 < i ∧ nth xs (i-1) < nth xs i := by simp [riseB]
/-- the ascents among the first k numbers -/
def ascTo (xs : List Int) : Nat → Nat
  | 0 => 0
  | k+1 => ascTo xs k + (if riseB xs k then 1 else 0)
theorem ascTo_le (xs : List Int) : ∀ k, ascTo xs k ≤ k - 1
  | 0 => by simp [ascTo]
  | 1 => by simp [ascTo, riseB]
  | k+2 => by
    have := ascTo_le xs (k+1)
    rw [ascTo]; split <;> omega
theorem ascTo_yes {xs : List Int} {k : Nat} (h : riseB xs k = true) : ascTo xs (k+1) = ascTo xs k + 1 := by simp [ascTo, h]
theorem ascTo_no {xs : List Int} {k : Nat} (h : riseB xs k = false) : ascTo xs (k+1) = ascTo xs k := by simp [ascTo, h]
/-- the greatest number that may stand at k -/
def bndTo (xs : List Int) (k : Nat) : Int := if k = 0 then 0 else (ascTo xs k : Int) + 1
theorem bndTo_zero (xs : List Int) : bndTo xs 0 = 0 := rfl
theorem bndTo_pos (xs : List Int) {k : Nat} (h : 0 < k) : bndTo xs k = (ascTo xs k : Int) + 1 := by simp [bndTo]; omega
theorem bndTo_le (xs : List Int) (k : Nat) : 0 ≤ bndTo xs k ∧ bndTo xs k ≤ (k : Int) := by
  have := ascTo_le xs k
  unfold bndTo
  split <;> omega
def ascOk (xs : List Int) (k : Nat) : Bool := inB (nth xs k) 0 (bndTo xs k)
/-- is it an ascent sequence? -/
def ascB (xs : List Int) : Bool := decide (xs.length ≤ 12) && (List.range xs.length).all (ascOk xs)
theorem ascB_iff {xs : List Int} : ascB xs = true ↔ xs.length ≤ 12 ∧ ∀ k, k < xs.length → ascOk xs k = true := by simp [ascB]
theorem ascB_no {xs : List Int} {k : Nat} (hk : k < xs.length) (h : ascOk xs k = false) : ascB xs = false := by
  rw [← Bool.not_eq_true, ascB_iff]
  rintro ⟨_, h2⟩
  rw [h2 k hk] at h
  cases h
theorem ascB_long {xs : List Int} (h : ¬ xs.length ≤ 12) : ascB xs = false := by
  rw [← Bool.not_eq_true, ascB_iff]
  exact fun h2 => h h2.1
theorem ascB_nth {xs : List Int} (h : ascB xs = true) {k : Nat} (hk : k < xs.length) : 0 ≤ nth xs k ∧ nth xs k ≤ bndTo xs k := inB_iff.1 ((ascB_iff.1 h).2 k hk)
theorem ascB_small {xs : List Int} (h : ascB xs = true) {k : Nat} (hk : k < xs.length) : 0 ≤ nth xs k ∧ nth xs k ≤ 11 := by
  have h1 := ascB_nth h hk
  have h2 := bndTo_le xs k
  have h3 := (ascB_iff.1 h).1
  omega
/-- how far the list has come -/
def clLast (xs : List Int) (k : Nat) : Int := if k = 0 then -1 else nth xs (k-1)
def clAsc (xs : List Int) (k : Nat) : Int := if k = 0 then -1 else (ascTo xs k : Int)
theorem clAsc_bnd (xs : List Int) (k : Nat) : clAsc xs k + 1 = bndTo xs k := by unfold clAsc bndTo; split <;> omega
theorem clLast_succ (xs : List Int) (k : Nat) : clLast xs (k+1) = nth xs k := by simp [clLast]
/-- the climb with one more number -/
def byA (last asc n : Int) : Int := if last < n then asc + 1 else asc
theorem clAsc_succ {xs : List Int} {k : Nat} (h0 : 0 ≤ nth xs k) : byA (clLast xs k) (clAsc xs k) (nth xs k) = clAsc xs (k+1) := by
  by_cases hk : k = 0
  · subst hk
    have : (-1 : Int) < nth xs 0 := by omega
    simp [byA, clLast, clAsc, ascTo, riseB, this]
  · simp only [byA, clLast, clAsc, hk, if_false, ascTo, Nat.succ_ne_zero, riseB]
    by_cases h : nth xs (k-1) < nth xs k
    · simp [h, show 0 < k by omega]
    · simp [h]
theorem clAsc_le (xs : List Int) (k : Nat) : -1 ≤ clAsc xs k ∧ clAsc xs k < max (k : Int) 0 + 1 := by
  have := ascTo_le xs k
  unfold clAsc
  split <;> omega
theorem clAsc_lt (xs : List Int) (k : Nat) : -1 ≤ clAsc xs k ∧ clAsc xs k ≤ (k : Int) := by
  have := ascTo_le xs k
  unfold clAsc
  split <;> omega

/-- a row of a list of rows -/
def rowL (xss : List (List Int)) (k : Nat) : List Int := xss.getD k []
/-- how many numbers the first k rows have -/
def totS (xss : List (List Int)) : Nat → Nat
  | 0 => 0
  | k+1 => totS xss k + (rowL xss k).length
theorem totS_mono {xss : List (List Int)} {j : Nat} : ∀ {k : Nat}, j ≤ k → totS xss j ≤ totS xss k
  | 0, h => by obtain rfl : j = 0 := by omega
               exact Nat.le_refl _
  | k+1, h => by
    by_cases e : j = k + 1
    · rw [e]; exact Nat.le_refl _
    · have := totS_mono (xss := xss) (j := j) (k := k) (by omega)
      simp only [totS]; omega
theorem row_tot {xss : List (List Int)} {k n : Nat} (h : k < n) : (rowL xss k).length ≤ totS xss n := by
  have := totS_mono (xss := xss) (j := k + 1) (k := n) (by omega)
  simp only [totS] at this
  omega
/-- the slice of slices at an address reads as a list of rows -/
structure RdS (w : World) (a : Option Addr) (xss : List (List Int)) : Prop where
  len : xss.length ≤ 9223372036854775807
  row : ∀ k, k < xss.length → ∃ b off a' cap', a = some ⟨b, off, none⟩ ∧ b < w.heap.size ∧ w.cell? ⟨b, off + k, none⟩ = some (.slice a' (rowL xss k).length cap') ∧ Rd w a' (rowL xss k)
theorem RdS.below {w w' : World} {a : Option Addr} {xss : List (List Int)} (h : RdS w a xss) (hb : Below w.heap.size w w') : RdS w' a xss :=
  ⟨h.len, fun k hk => by
    obtain ⟨b, off, a', cap', e, hl, hc, hr⟩ := h.row k hk
    exact ⟨b, off, a', cap', e, Nat.lt_of_lt_of_le hl hb.size, (hb.cell (World.block_lt_of_cell? _ _ hc)).trans hc, hr.below hb⟩⟩
theorem ownsRow_bel {w w' : World} {B B' : Nat} {e : TypeId} {size : Nat} {v : Value} {n : Nat} {xs : List Value} (h : w.ownsRow B e size v n xs) (hb : Below B' w w') (hB : w.heap.size ≤ B') : w'.ownsRow B e size v n xs := by
  refine ⟨h.1, ?_⟩
  rcases h.2 with hn | ⟨g, cap, cur, e, hb', hg, rest⟩
  · exact .inl hn
  · refine .inr ⟨g, cap, cur, e, hb', ?_, rest⟩
    rw [hb.block g (by have := (Array.getElem?_eq_some_iff.1 hg).1; omega)]
    exact hg
def valAt (vl : List Value) (k : Nat) : Value := vl.getD k (.slice none 0 0)
/-- a slice of slices that owns its rows: the outer block is g -/
structure OwnS (w : World) (B g : Nat) (vl : List Value) (xss : List (List Int)) : Prop where
  lo : B ≤ g
  hi : g < w.heap.size
  max : xss.length ≤ 9223372036854775807
  cell : ∀ k, k < xss.length → w.cell? ⟨g, k, none⟩ = some (valAt vl k)
  row : ∀ k, k < xss.length → OwnI w (g + 1) (valAt vl k) (rowL xss k)
  apart : ∀ j k, j < k → k < xss.length → ∀ c d, (valAt vl j).ownBlock = some c → (valAt vl k).ownBlock = some d → c < d
theorem OwnS.rd {w : World} {B g : Nat} {vl : List Value} {xss : List (List Int)} (h : OwnS w B g vl xss) : RdS w (some ⟨g, 0, none⟩) xss :=
  ⟨h.max, fun k hk => by
    have h1 := h.row k hk
    have h2 := h.cell k hk
    obtain ⟨a', cap', e⟩ := h1.form
    rw [e] at h1 h2
    exact ⟨g, 0, a', cap', rfl, h.hi, by rw [Nat.zero_add]; exact h2, h1.rd⟩⟩
theorem OwnS.below {w w' : World} {B B' g : Nat} {vl : List Value} {xss : List (List Int)} (h : OwnS w B g vl xss) (hb : Below B' w w') (hB : w.heap.size ≤ B') : OwnS w' B g vl xss :=
  ⟨h.lo, Nat.lt_of_lt_of_le h.hi hb.size, h.max, fun k hk => (hb.cell (p := ⟨g, k, none⟩) (Nat.lt_of_lt_of_le h.hi hB)).trans (h.cell k hk), fun k hk => (h.row k hk).below hb hB, h.apart⟩
theorem OwnS.cut {w : World} {B g : Nat} {vl : List Value} {xss : List (List Int)} (h : OwnS w B g vl xss) {U : Nat} (hU : w.heap.size ≤ U) : B ≤ g ∧ ∀ k, k < xss.length → ∀ c, (valAt vl k).ownBlock = some c → g < c ∧ c < U :=
  ⟨h.lo, fun k hk c e => by have := (h.row k hk).lt c e; omega⟩
/-- only blocks of a stretch are written -/
structure TouchS (lo hi : Nat) (w w' : World) : Prop where
  os : w'.os = w.os
  tape : w'.tape = w.tape
  output : w'.output = w.output
  size : w.heap.size ≤ w'.heap.size
  block : ∀ k, k < w.heap.size → k < lo ∨ hi ≤ k → w'.heap[k]? = w.heap[k]?
theorem TouchS.refl (lo hi : Nat) (w : World) : TouchS lo hi w w := ⟨rfl, rfl, rfl, Nat.le_refl _, fun _ _ _ => rfl⟩
theorem TouchS.step {lo hi : Nat} {w w1 w2 : World} {r : Option Nat} (h : TouchS lo hi w w1) (hg : w1.grownBy w2 r) (hr : ∀ c, r = some c → lo ≤ c ∧ c < hi) : TouchS lo hi w w2 :=
  ⟨hg.os.trans h.os, hg.tape.trans h.tape, hg.output.trans h.output, Nat.le_trans h.size hg.size, fun k hk hn => (hg.block k (by have := h.size; omega) (fun e => by have := hr k e.symm; omega)).trans (h.block k hk hn)⟩
theorem TouchS.below {lo hi B : Nat} {w w' : World} (h : TouchS lo hi w w') (hB : B ≤ lo) (hs : B ≤ w.heap.size) : Below B w w' :=
  ⟨h.os, h.tape, h.output, h.size, fun k hk => h.block k (by omega) (by omega)⟩
theorem TouchS.other {lo hi : Nat} {w w' : World} (h : TouchS lo hi w w') (b : Nat) (hb : b < lo ∨ hi ≤ b) (hs : b < w.heap.size) : ∀ r, w'.heap[b]? = w.heap[b]? ∧ (r = some b → True) := fun _ => ⟨h.block b hs hb, fun _ => trivial⟩
theorem Box2.touch {lo hi : Nat} {w w' : World} {b : Nat} {u v : Value} (h : Box2 w b u v) (ht : TouchS lo hi w w') (hb : b < lo ∨ hi ≤ b) : Box2 w' b u v :=
  ⟨Nat.lt_of_lt_of_le h.1 ht.size, (World.cell?_of_block (w := w) (a := ⟨b, 0, none⟩) (ht.block b h.1 hb)).trans h.2.1, (World.cell?_of_block (w := w) (a := ⟨b, 1, none⟩) (ht.block b h.1 hb)).trans h.2.2⟩
theorem OwnI.touch {lo hi : Nat} {w w' : World} {B : Nat} {v : Value} {xs : List Int} (h : OwnI w B v xs) (ht : TouchS lo hi w w') (hb : ∀ c, v.ownBlock = some c → c < lo ∨ hi ≤ c) : OwnI w' B v xs := by
  refine ⟨h.1, ?_⟩
  rcases h.2 with hn | ⟨g, cap, cur, e, hb', hg, rest⟩
  · exact .inl hn
  · refine .inr ⟨g, cap, cur, e, hb', ?_, rest⟩
    rw [ht.block g (Array.getElem?_eq_some_iff.1 hg).1 (hb g (by rw [e]; rfl))]
    exact hg

theorem nth_snoc_lt {ys : List Int} {x : Int} {j : Nat} (h : j < ys.length) : nth (ys ++ [x]) j = nth ys j := by
  simp [nth, List.getD_eq_getElem?_getD, List.getElem?_append_left h]
theorem nth_snoc_at (ys : List Int) (x : Int) : nth (ys ++ [x]) ys.length = x := by
  simp [nth, List.getD_eq_getElem?_getD]
/-- the sum of the first k values -/
def sumTo (f : Nat → Nat) : Nat → Nat
  | 0 => 0
  | k+1 => sumTo f k + f k
theorem sumTo_congr {f g : Nat → Nat} : ∀ {k : Nat}, (∀ j, j < k → f j = g j) → sumTo f k = sumTo g k
  | 0, _ => rfl
  | k+1, h => by rw [sumTo, sumTo, sumTo_congr (fun j hj => h j (by omega)), h k (by omega)]
theorem sumTo_le {f : Nat → Nat} {c : Nat} : ∀ {k : Nat}, (∀ j, j < k → f j ≤ c) → sumTo f k ≤ k * c
  | 0, _ => by simp [sumTo]
  | k+1, h => by
    have h1 := sumTo_le (f := f) (c := c) (k := k) (fun j hj => h j (by omega))
    have h2 := h k (by omega)
    rw [sumTo, Nat.succ_mul]; omega
theorem sumTo_mono {f : Nat → Nat} {j : Nat} : ∀ {k : Nat}, j ≤ k → sumTo f j ≤ sumTo f k
  | 0, h => by obtain rfl : j = 0 := by omega
               exact Nat.le_refl _
  | k+1, h => by
    by_cases e : j = k + 1
    · rw [e]; exact Nat.le_refl _
    · have := sumTo_mono (f := f) (j := j) (k := k) (by omega)
      rw [sumTo]; omega
/-- the first k of so many lists of rows, one after the other -/
def catTo (f : Nat → List (List Int)) : Nat → List (List Int)
  | 0 => []
  | k+1 => catTo f k ++ f k
theorem catTo_len (f : Nat → List (List Int)) : ∀ k, (catTo f k).length = sumTo (fun x => (f x).length) k
  | 0 => rfl
  | k+1 => by rw [catTo, sumTo, List.length_append, catTo_len f k]
theorem mem_catTo {f : Nat → List (List Int)} {r : List Int} : ∀ {k : Nat}, r ∈ catTo f k → ∃ j, j < k ∧ r ∈ f j
  | 0, h => by simp [catTo] at h
  | k+1, h => by
    rcases List.mem_append.1 h with h | h
    · obtain ⟨j, h1, h2⟩ := mem_catTo h
      exact ⟨j, by omega, h2⟩
    · exact ⟨k, by omega, h⟩

/-- in how many ways a climb goes on for so many numbers -/
def wayI : Nat → Int → Int → Nat
  | 0, _, _ => 1
  | s+1, l, a => sumTo (fun x => wayI s (x : Int) (byA l a (x : Int))) (a + 2).toNat
theorem byA_bd {l a x : Int} : a ≤ byA l a x ∧ byA l a x ≤ a + 1 := by unfold byA; split <;> omega
theorem wayI_le : ∀ (s : Nat) (l a : Int), a + (s : Int) ≤ 12 → wayI s l a ≤ 14 ^ s
  | 0, _, _, _ => by simp [wayI]
  | s+1, l, a, h => by
    rw [wayI]
    have h1 := sumTo_le (f := fun x => wayI s (x : Int) (byA l a (x : Int))) (c := 14 ^ s) (k := (a + 2).toNat) (fun x _ => wayI_le s _ _ (by have := byA_bd (l := l) (a := a) (x := (x : Int)); omega))
    have h2 := Nat.mul_le_mul (show (a + 2).toNat ≤ 14 by omega) (Nat.le_refl (14 ^ s))
    rw [Nat.pow_succ]; omega
theorem pow14 {s : Nat} (h : s ≤ 13) : 14 ^ s ≤ 793714773254144 := Nat.le_trans (Nat.pow_le_pow_right (by omega) h) (by decide)
theorem pow15 {s : Nat} (h : s ≤ 13) : 15 ^ s ≤ 1946195068359375 := Nat.le_trans (Nat.pow_le_pow_right (by omega) h) (by decide)

/-- the table of ways: so many numbers to come, the ascents so far, the last number -/
def tW : Nat → Nat → Nat → Nat
  | 0, _, _ => 1
  | d+1, a, l => if a + 1 < 14 then sumTo (fun x => if l < x then tW d (a+1) x else tW d a x) (a + 2) else 0
theorem tW_le : ∀ (d a l : Nat), tW d a l ≤ 14 ^ d
  | 0, _, _ => by simp [tW]
  | d+1, a, l => by
    rw [tW]
    split
    · have h1 := sumTo_le (f := fun x => if l < x then tW d (a+1) x else tW d a x) (c := 14 ^ d) (k := a + 2) (fun x _ => by
        show (if l < x then tW d (a+1) x else tW d a x) ≤ 14 ^ d
        split <;> exact tW_le d _ _)
      have h2 := Nat.mul_le_mul (show a + 2 ≤ 14 by omega) (Nat.le_refl (14 ^ d))
      rw [Nat.pow_succ]; omega
    · exact Nat.zero_le _
theorem tW_way : ∀ (d a l : Nat), a + d ≤ 13 → tW d a l = wayI d (l : Int) (a : Int)
  | 0, _, _, _ => rfl
  | d+1, a, l, h => by
    rw [tW, if_pos (by omega), wayI]
    have e : ((a : Int) + 2).toNat = a + 2 := by omega
    rw [e]
    refine sumTo_congr fun x hx => ?_
    show (if l < x then tW d (a+1) x else tW d a x) = wayI d (x : Int) (byA (l : Int) (a : Int) (x : Int))
    by_cases hl : l < x
    · rw [if_pos hl, byA, if_pos (by omega), tW_way d (a+1) x (by omega)]
      congr 1
    · rw [if_neg hl, byA, if_neg (by omega), tW_way d a x (by omega)]
def pS (e a l : Nat) (x : Nat) : Nat := sumTo (fun x => if l < x then tW e (a+1) x else tW e a x) x
theorem pS_le (e a l : Nat) {x : Nat} (h : x ≤ 14) : pS e a l x ≤ 14 ^ (e+1) := by
  have h1 := sumTo_le (f := fun x => if l < x then tW e (a+1) x else tW e a x) (c := 14 ^ e) (k := x) (fun x _ => by
    show (if l < x then tW e (a+1) x else tW e a x) ≤ 14 ^ e
    split <;> exact tW_le e _ _)
  have h2 := Nat.mul_le_mul h (Nat.le_refl (14 ^ e))
  rw [Nat.pow_succ]
  unfold pS
  omega

/-- in how many ways a list goes on up to a length -/
def cntF (ys : List Int) (n : Nat) : Nat := tW (n - ys.length) (ascTo ys ys.length) (nth ys (ys.length - 1)).toNat

theorem ascTo_congr {xs ys : List Int} : ∀ {k : Nat}, (∀ j, j < k → nth xs j = nth ys j) → ascTo xs k = ascTo ys k
  | 0, _ => rfl
  | k+1, h => by
    have hr : riseB xs k = riseB ys k := by
      unfold riseB
      by_cases h0 : 0 < k
      · rw [h k (by omega), h (k-1) (by omega)]
      · simp [h0]
    rw [ascTo, ascTo, ascTo_congr (fun j hj => h j (by omega)), hr]
theorem nth_left {xs ys : List Int} {i : Nat} (h : i < xs.length) : nth (xs ++ ys) i = nth xs i := by simp [nth, List.getD_eq_getElem?_getD, List.getElem?_append_left h]
theorem nth_tk {xs : List Int} {i k : Nat} (h : i < k) : nth (xs.take k) i = nth xs i := by simp [nth, List.getD_eq_getElem?_getD, List.getElem?_take, h]
theorem nth_end (xs : List Int) (x : Int) : nth (xs ++ [x]) xs.length = x := by simp [nth, List.getD_eq_getElem?_getD]
theorem nth_last (xs : List Int) (x : Int) : nth (xs ++ [x]) ((xs ++ [x]).length - 1) = x := by simp [nth, List.getD_eq_getElem?_getD]
/-- the ascents of a list and one more number -/
theorem asc_snoc {zs : List Int} {x : Int} (hx : 0 ≤ x) : ((ascTo (zs ++ [x]) (zs.length + 1) : Nat) : Int) = byA (clLast zs zs.length) (clAsc zs zs.length) x := by
  have h1 : ascTo (zs ++ [x]) zs.length = ascTo zs zs.length := ascTo_congr (fun j hj => nth_left hj)
  rw [ascTo, h1]
  by_cases h0 : zs.length = 0
  · have hz : zs = [] := List.eq_nil_of_length_eq_zero h0
    subst hz
    have : (-1 : Int) < x := by omega
    simp [riseB, byA, clLast, clAsc, ascTo, this]
  · have e1 : nth (zs ++ [x]) (zs.length - 1) = nth zs (zs.length - 1) := nth_left (by omega)
    simp only [riseB, e1, nth_end, byA, clLast, clAsc, h0, if_false]
    by_cases h : nth zs (zs.length - 1) < x
    · simp [h, show 0 < zs.length by omega]
    · simp [h]
/-- the ways of a list and one more number, up to n numbers -/
def wyL (zs : List Int) (n : Nat) (x : Nat) : Nat := wayI (n - zs.length - 1) (x : Int) (byA (clLast zs zs.length) (clAsc zs zs.length) (x : Int))
theorem cntF_snoc {zs : List Int} {n x : Nat} (h1 : zs.length < n) (h2 : n ≤ 12) : cntF (zs ++ [(x : Int)]) n = wyL zs n x := by
  have hl : (zs ++ [(x : Int)]).length = zs.length + 1 := by simp
  rw [cntF, hl, Nat.add_sub_cancel, nth_end]
  have ha := ascTo_le (zs ++ [(x : Int)]) (zs.length + 1)
  have he : ((x : Int)).toNat = x := by simp
  rw [he, tW_way _ _ _ (by omega), asc_snoc (by omega)]
  rfl
theorem wyL_le {zs : List Int} {n x : Nat} (h1 : zs.length < n) (h2 : n ≤ 12) : wyL zs n x ≤ 793714773254144 := by
  have h3 := clAsc_lt zs zs.length
  have h4 := byA_bd (l := clLast zs zs.length) (a := clAsc zs zs.length) (x := (x : Int))
  exact Nat.le_trans (wayI_le _ _ _ (by omega)) (pow14 (by omega))
theorem cl_take {xs : List Int} {i : Nat} (h : i ≤ xs.length) : clLast (xs.take i) i = clLast xs i ∧ clAsc (xs.take i) i = clAsc xs i := by
  unfold clLast clAsc
  by_cases h0 : i = 0
  · simp [h0]
  · simp only [h0, if_false]
    exact ⟨nth_tk (by omega), by rw [ascTo_congr (fun j hj => nth_tk hj)]⟩
theorem wyL_take {xs : List Int} {n i x : Nat} (h : i ≤ xs.length) : wyL (xs.take i) n x = wayI (n - i - 1) (x : Int) (byA (clLast xs i) (clAsc xs i) (x : Int)) := by
  have hl : (xs.take i).length = i := by simp; omega
  have ⟨c1, c2⟩ := cl_take h
  rw [wyL, hl, c1, c2]
/-- the lists that stand before this one and part from it at i -/
def rkR (xs : List Int) (i k : Nat) : Nat := sumTo (wyL (xs.take i) xs.length) k
def rkT (xs : List Int) (k : Nat) : Nat := sumTo (fun i => rkR xs i (nth xs i).toNat) k
def rkA (xs : List Int) : Int := if ascB xs then ((rkT xs xs.length : Nat) : Int) else 0
theorem rkR_le {xs : List Int} {i k : Nat} (hi : i < xs.length) (h2 : xs.length ≤ 12) (hk : k ≤ 12) : rkR xs i k ≤ 9524577279049728 := by
  have hl : (xs.take i).length = i := by simp; omega
  exact Nat.le_trans (sumTo_le (c := 793714773254144) (fun x _ => wyL_le (by omega) h2)) (Nat.le_trans (Nat.mul_le_mul hk (Nat.le_refl _)) (by decide))
theorem rkT_le {xs : List Int} (hA : ascB xs = true) {k : Nat} (hk : k ≤ xs.length) : rkT xs k ≤ 114294927348596736 := by
  have h2 := (ascB_iff.1 hA).1
  exact Nat.le_trans (sumTo_le (c := 9524577279049728) (fun i hi => rkR_le (by omega) h2 (by have := (ascB_small hA (k := i) (by omega)).2; omega))) (Nat.le_trans (Nat.mul_le_mul (show k ≤ 12 by omega) (Nat.le_refl _)) (by decide))

/-- the first m sums that are at most r -/
def pickT (f : Nat → Nat) (r : Nat) : Nat → Nat
  | 0 => 0
  | m+1 => if sumTo f (pickT f r m + 1) ≤ r then pickT f r m + 1 else pickT f r m
theorem pickT_le (f : Nat → Nat) (r : Nat) : ∀ m, sumTo f (pickT f r m) ≤ r
  | 0 => by simp [pickT, sumTo]
  | m+1 => by
    rw [pickT]
    split
    · assumption
    · exact pickT_le f r m
theorem pickT_end (f : Nat → Nat) (r : Nat) : ∀ m, pickT f r m = m ∨ r < sumTo f (pickT f r m + 1)
  | 0 => .inl rfl
  | m+1 => by
    rw [pickT]
    split
    · rename_i h
      rcases pickT_end f r m with h2 | h2
      · exact .inl (by rw [h2])
      · omega
    · exact .inr (by omega)
theorem pickT_at {f : Nat → Nat} {r B : Nat} (hB : B ≤ 14) (h : r < sumTo f B) : pickT f r 14 < B ∧ sumTo f (pickT f r 14) ≤ r ∧ r < sumTo f (pickT f r 14 + 1) := by
  have h1 := pickT_le f r 14
  have hlt : pickT f r 14 < B := by
    rcases Nat.lt_or_ge (pickT f r 14) B with h2 | h2
    · exact h2
    · have := sumTo_mono (f := f) h2; omega
  refine ⟨hlt, h1, ?_⟩
  rcases pickT_end f r 14 with h2 | h2
  · omega
  · exact h2
/-- the numbers so far, and the rank that is left -/
def awS (n r : Nat) : Nat → List Int × Nat
  | 0 => ([], r)
  | k+1 => ((awS n r k).1 ++ [((pickT (wyL (awS n r k).1 n) (awS n r k).2 14 : Nat) : Int)], (awS n r k).2 - sumTo (wyL (awS n r k).1 n) (pickT (wyL (awS n r k).1 n) (awS n r k).2 14))
theorem awS_len (n r : Nat) : ∀ k, (awS n r k).1.length = k
  | 0 => rfl
  | k+1 => by rw [awS, List.length_append, awS_len n r k]; rfl
theorem way_sum {zs : List Int} {n : Nat} (h : zs.length < n) : wayI (n - zs.length) (clLast zs zs.length) (clAsc zs zs.length) = sumTo (wyL zs n) (clAsc zs zs.length + 2).toNat := by
  obtain ⟨s, hs⟩ : ∃ s, n - zs.length = s + 1 := ⟨n - zs.length - 1, by omega⟩
  rw [hs, wayI]
  refine sumTo_congr fun x _ => ?_
  rw [wyL, show n - zs.length - 1 = s by omega]
theorem awS_good {n r : Nat} (hr : r < wayI n (-1) (-1)) : ∀ {k : Nat}, k ≤ n → n ≤ 12 → (awS n r k).2 < wayI (n - k) (clLast (awS n r k).1 k) (clAsc (awS n r k).1 k)
  | 0, _, _ => by simpa [awS, clLast, clAsc] using hr
  | k+1, hk, hn => by
    have ih := awS_good hr (k := k) (by omega) hn
    have hl := awS_len n r k
    have hs := way_sum (zs := (awS n r k).1) (n := n) (by omega)
    have hc := clAsc_lt (awS n r k).1 k
    rw [hl] at hs
    rw [hs] at ih
    have ⟨_, h2, h3⟩ := pickT_at (by omega) ih
    rw [sumTo] at h3
    have e1 : clLast (awS n r (k+1)).1 (k+1) = ((pickT (wyL (awS n r k).1 n) (awS n r k).2 14 : Nat) : Int) := by
      rw [clLast_succ, awS]
      have := nth_end (awS n r k).1 ((pickT (wyL (awS n r k).1 n) (awS n r k).2 14 : Nat) : Int)
      rw [hl] at this
      exact this
    have e2 : clAsc (awS n r (k+1)).1 (k+1) = byA (clLast (awS n r k).1 k) (clAsc (awS n r k).1 k) ((pickT (wyL (awS n r k).1 n) (awS n r k).2 14 : Nat) : Int) := by
      have := asc_snoc (zs := (awS n r k).1) (x := ((pickT (wyL (awS n r k).1 n) (awS n r k).2 14 : Nat) : Int)) (by omega)
      rw [hl] at this
      rw [clAsc, if_neg (by omega), awS, this]
    rw [e1, e2]
    have e3 : wyL (awS n r k).1 n (pickT (wyL (awS n r k).1 n) (awS n r k).2 14) = wayI (n - (k+1)) ((pickT (wyL (awS n r k).1 n) (awS n r k).2 14 : Nat) : Int) (byA (clLast (awS n r k).1 k) (clAsc (awS n r k).1 k) ((pickT (wyL (awS n r k).1 n) (awS n r k).2 14 : Nat) : Int)) := by
      rw [wyL, hl, show n - k - 1 = n - (k+1) by omega]
    rw [← e3]
    show (awS n r k).2 - sumTo (wyL (awS n r k).1 n) (pickT (wyL (awS n r k).1 n) (awS n r k).2 14) < _
    omega
/-- what the next number is, of a list and the rank that is left -/
theorem aw_pick {n r : Nat} (hr : r < wayI n (-1) (-1)) (hn : n ≤ 12) {k : Nat} (hk : k < n) {zs : List Int} {R : Nat} (hz : zs = (awS n r k).1) (hR : R = (awS n r k).2) :
    ∃ p, p ≤ 12 ∧ sumTo (wyL zs n) p ≤ R ∧ R < sumTo (wyL zs n) (p+1) ∧ awS n r (k+1) = (zs ++ [(p : Int)], R - sumTo (wyL zs n) p) := by
  have hl := awS_len n r k
  have ih := awS_good hr (k := k) (by omega) hn
  have hs := way_sum (zs := (awS n r k).1) (n := n) (by omega)
  have hc := clAsc_lt (awS n r k).1 k
  rw [hl] at hs
  rw [hs] at ih
  have ⟨h1, h2, h3⟩ := pickT_at (by omega) ih
  subst hz hR
  exact ⟨_, by omega, h2, h3, rfl⟩
def awB (n r : Int) : Bool := inB n 0 12 && inB r 0 (((wayI n.toNat (-1) (-1) : Nat) : Int) - 1)
def awL (n r : Int) : List Int := if awB n r then (awS n.toNat r.toNat n.toNat).1 else []
theorem awL_len (n r : Int) : (awL n r).length ≤ 1048576 := by
  unfold awL
  split
  · rename_i h
    simp only [awB, Bool.and_eq_true, inB_iff] at h
    rw [awS_len]; omega
  · simp

/-- a list of rows that has been made: the outer row is at v, and each row is one of its own -/
structure RowsO (w : World) (B : Nat) (v : Value) (vl : List Value) (xss : List (List Int)) : Prop where
  own : w.ownsRow B 25 1 v xss.length vl
  row : ∀ k, k < xss.length → OwnI w B (valAt vl k) (rowL xss k)
  apart : ∀ k, k < xss.length → ∀ c, (valAt vl k).ownBlock = some c → v.ownBlock ≠ some c
theorem RowsO.vlen {w : World} {B : Nat} {v : Value} {vl : List Value} {xss : List (List Int)} (h : RowsO w B v vl xss) : vl.length = xss.length := by
  have := h.own.1
  omega
theorem RowsO.form {w : World} {B : Nat} {v : Value} {vl : List Value} {xss : List (List Int)} (h : RowsO w B v vl xss) : ∃ a cap, v = .slice a xss.length cap := by
  rcases h.own.2 with ⟨rfl, h0⟩ | ⟨g, cap, cur, rfl, _⟩
  · exact ⟨none, 0, by rw [h0]⟩
  · exact ⟨_, _, rfl⟩
theorem RowsO.below {w w' : World} {B B' : Nat} {v : Value} {vl : List Value} {xss : List (List Int)} (h : RowsO w B v vl xss) (hb : Below B' w w') (hB : w.heap.size ≤ B') : RowsO w' B v vl xss :=
  ⟨ownsRow_bel h.own hb hB, fun k hk => (h.row k hk).below hb hB, h.apart⟩
theorem RowsO.mono {w : World} {B B' : Nat} {v : Value} {vl : List Value} {xss : List (List Int)} (h : RowsO w B v vl xss) (hB : B' ≤ B) : RowsO w B' v vl xss := by
  refine ⟨⟨h.own.1, ?_⟩, fun k hk => (h.row k hk).mono hB, h.apart⟩
  rcases h.own.2 with hn | ⟨g, cap, cur, e, hb, rest⟩
  · exact .inl hn
  · exact .inr ⟨g, cap, cur, e, by omega, rest⟩
theorem RowsO.nil (w : World) (B : Nat) : RowsO w B (.slice none 0 0) [] [] :=
  ⟨World.ownsRow_nil _ _ _ _, fun k hk => by simp at hk, fun k hk => by simp at hk⟩
theorem RowsO.lt {w : World} {B : Nat} {v : Value} {vl : List Value} {xss : List (List Int)} (h : RowsO w B v vl xss) : ∀ b, v.ownBlock = some b → B ≤ b ∧ b < w.heap.size := World.ownsRow.lt h.own
theorem valAt_get {vl : List Value} {k : Nat} (h : k < vl.length) : vl[k]? = some (valAt vl k) := by
  rw [valAt, List.getD_eq_getElem?_getD, List.getElem?_eq_getElem h]; rfl
theorem RowsO.rd {w : World} {B n cap : Nat} {a : Option Addr} {vl : List Value} {xss : List (List Int)} (h : RowsO w B (.slice a n cap) vl xss) : RdS w a xss := by
  have hvl := h.vlen
  rcases h.own.2 with ⟨e, h0⟩ | ⟨g, cap', cur, e, hb, hg, hn, hm, hs, ht⟩
  · exact ⟨by omega, fun k hk => by omega⟩
  · simp only [Value.slice.injEq] at e
    obtain ⟨rfl, rfl, rfl⟩ := e
    refine ⟨by unfold maxLen at hm; omega, fun k hk => ?_⟩
    have h1 := World.ownsRow.cellAt h.own k (by omega)
    have h2 := h.row k hk
    obtain ⟨a', c', e'⟩ := h2.form
    rw [e'] at h2
    refine ⟨g, 0, a', c', rfl, (Array.getElem?_eq_some_iff.1 hg).1, ?_, h2.rd⟩
    rw [Nat.zero_add, h1, valAt_get (by omega), e']
/-- one list of rows after the other: only the outer row of the first one has been written -/
theorem RowsO.cat {w w' : World} {B C : Nat} {v v2 v' : Value} {vl vl2 : List Value} {xss yss : List (List Int)} (h : RowsO w B v vl xss) (h2 : RowsO w C v2 vl2 yss) (hBC : B ≤ C) (hvC : ∀ c, v.ownBlock = some c → c < C)
    (ho : w'.ownsRow B 25 1 v' (xss.length + yss.length) (vl ++ vl2)) (hg : w.grownBy w' v.ownBlock) (hv' : v'.ownBlock = v.ownBlock ∨ v'.ownBlock = some w.heap.size) : RowsO w' B v' (vl ++ vl2) (xss ++ yss) := by
  have hl := h.vlen
  have hl2 := h2.vlen
  have e1 : ∀ k, k < xss.length → valAt (vl ++ vl2) k = valAt vl k ∧ rowL (xss ++ yss) k = rowL xss k := by
    intro k hk
    exact ⟨by rw [valAt, valAt, List.getD_eq_getElem?_getD, List.getD_eq_getElem?_getD, List.getElem?_append_left (by omega)], by rw [rowL, rowL, List.getD_eq_getElem?_getD, List.getD_eq_getElem?_getD, List.getElem?_append_left (by omega)]⟩
  have e2 : ∀ k, xss.length ≤ k → valAt (vl ++ vl2) k = valAt vl2 (k - xss.length) ∧ rowL (xss ++ yss) k = rowL yss (k - xss.length) := by
    intro k hk
    exact ⟨by rw [valAt, valAt, List.getD_eq_getElem?_getD, List.getD_eq_getElem?_getD, List.getElem?_append_right (by omega), hl], by rw [rowL, rowL, List.getD_eq_getElem?_getD, List.getD_eq_getElem?_getD, List.getElem?_append_right (by omega)]⟩
  have hne : ∀ k, k < (xss ++ yss).length → OwnI w B (valAt (vl ++ vl2) k) (rowL (xss ++ yss) k) ∧ ∀ c, (valAt (vl ++ vl2) k).ownBlock = some c → v.ownBlock ≠ some c ∧ c < w.heap.size := by
    intro k hk
    rw [List.length_append] at hk
    by_cases e : k < xss.length
    · rw [(e1 k e).1, (e1 k e).2]
      exact ⟨h.row k e, fun c hc => ⟨h.apart k e c hc, ((h.row k e).lt c hc).2⟩⟩
    · rw [(e2 k (by omega)).1, (e2 k (by omega)).2]
      have h3 := h2.row (k - xss.length) (by omega)
      refine ⟨h3.mono hBC, fun c hc => ⟨fun hh => ?_, (h3.lt c hc).2⟩⟩
      have := hvC c hh
      have := (h3.lt c hc).1
      omega
  refine ⟨by rw [List.length_append]; exact ho, fun k hk => ?_, fun k hk c hc => ?_⟩
  · have ⟨h3, h4⟩ := hne k hk
    refine h3.kept hg ?_
    cases hc : (valAt (vl ++ vl2) k).ownBlock with
    | none => exact .inl rfl
    | some c => exact .inr (fun hh => (h4 c hc).1 hh.symm)
  · have ⟨_, h4⟩ := hne k hk
    have ⟨h5, h6⟩ := h4 c hc
    rcases hv' with hv' | hv'
    · rw [hv']; exact h5
    · rw [hv']; intro hh; simp only [Option.some.injEq] at hh; omega
theorem infoSlice : (Try.prog.info? 25).map (fun i => (i.zero, i.size, i.bytes)) = some (some (.slice none 0 0), 1, 24) := by kernel_rfl

def allB (xs : List Int) (lo hi : Int) : Bool := xs.all (fun x => inB x lo hi)
theorem allB_take (xs : List Int) (lo hi : Int) (k : Nat) (h : k < xs.length) : allB (xs.take (k+1)) lo hi = (allB (xs.take k) lo hi && inB (nth xs k) lo hi) := by
  simp only [allB]
  rw [List.take_succ_eq_append_getElem h, List.all_append]
  simp [nth, h]
theorem allB_false {xs : List Int} {lo hi : Int} {k : Nat} (h : k < xs.length) (h1 : inB (nth xs k) lo hi = false) : allB xs lo hi = false := by
  simp only [allB, List.all_eq_false]
  exact ⟨xs[k], List.getElem_mem h, by simpa [nth, h] using h1⟩
theorem allB_nth {xs : List Int} {lo hi : Int} (h : allB xs lo hi = true) {k : Nat} (hk : k < xs.length) : lo ≤ nth xs k ∧ nth xs k ≤ hi := by
  simp only [allB, List.all_eq_true] at h
  have := inB_iff.1 (h _ (List.getElem_mem hk))
  rwa [← nth_get xs k hk] at this

/-- is it a relation? -/
def relB (n : Int) (xs : List Int) : Bool := inB n 0 10 && decide ((xs.length : Int) = n) && allB xs 0 (2 ^ n.toNat - 1)
theorem relB_iff {n : Int} {xs : List Int} : relB n xs = true ↔ (0 ≤ n ∧ n ≤ 10) ∧ (xs.length : Int) = n ∧ allB xs 0 (2 ^ n.toNat - 1) = true := by
  simp [relB, inB_iff, and_assoc]
theorem pow10 {n : Nat} (h : n ≤ 10) : (1 : Int) ≤ 2 ^ n ∧ (2 : Int) ^ n ≤ 1024 := by
  have h1 : 2 ^ n ≤ 2 ^ 10 := Nat.pow_le_pow_right (by omega) h
  have h2 : 1 ≤ 2 ^ n := Nat.one_le_two_pow
  have h3 : ((2 ^ n : Nat) : Int) = (2 : Int) ^ n := by simp
  omega
theorem full_eq {n : Int} (h0 : 0 ≤ n) (h1 : n ≤ 10) : wrap64 (wrap64 (2 ^ n.toNat) - 1) = 2 ^ n.toNat - 1 := by
  have h2 := pow10 (n := n.toNat) (by omega)
  generalize (2 : Int) ^ n.toNat = p at *
  rw [IntWalk.wrap64_in p ⟨by omega, by omega⟩, IntWalk.wrap64_in _ ⟨by omega, by omega⟩]
structure RelP (n : Int) (xs : List Int) : Prop where
  n0 : 0 ≤ n
  n1 : n ≤ 10
  len : (xs.length : Int) = n
  pos : ∀ k, k < xs.length → 0 ≤ nth xs k
  lt : ∀ k, k < xs.length → nth xs k < 2 ^ xs.length
  small : ∀ k, k < xs.length → nth xs k < 1024
theorem relB_p {n : Int} {xs : List Int} (h : relB n xs = true) : RelP n xs := by
  obtain ⟨⟨h0, h1⟩, h2, h3⟩ := relB_iff.1 h
  have e : n.toNat = xs.length := by omega
  rw [e] at h3
  have hp := pow10 (n := xs.length) (by omega)
  exact ⟨h0, h1, h2, fun k hk => (allB_nth h3 hk).1, fun k hk => by have := (allB_nth h3 hk).2; omega, fun k hk => by have := (allB_nth h3 hk).2; omega⟩

/-- one step of the closing: what is above k goes to i, if k is above i -/
def clStep (xs : List Int) (k i : Nat) : List Int := if hasB (nth xs i) k then xs.set i (((nth xs i).toNat ||| (nth xs k).toNat : Nat) : Int) else xs
def clRow (xs : List Int) (k : Nat) : Nat → List Int
  | 0 => xs
  | i+1 => clStep (clRow xs k i) k i
def clAll (xs : List Int) : Nat → List Int
  | 0 => xs
  | k+1 => clRow (clAll xs k) k xs.length
theorem clStep_len (xs : List Int) (k i : Nat) : (clStep xs k i).length = xs.length := by
  unfold clStep; split <;> simp
theorem clRow_len (xs : List Int) (k : Nat) : ∀ i, (clRow xs k i).length = xs.length
  | 0 => rfl
  | i+1 => by rw [clRow, clStep_len, clRow_len xs k i]
theorem clAll_len (xs : List Int) : ∀ k, (clAll xs k).length = xs.length
  | 0 => rfl
  | k+1 => by rw [clAll, clRow_len, clAll_len xs k]
/-- all numbers of a list are sets below 1024 -/
def Small (xs : List Int) : Prop := ∀ k, k < xs.length → 0 ≤ nth xs k ∧ nth xs k < 1024
theorem nth_set {xs : List Int} {i j : Nat} {x : Int} (hi : i < xs.length) : nth (xs.set i x) j = if i = j then x else nth xs j := by
  simp only [nth, List.getD_eq_getElem?_getD, List.getElem?_set]
  by_cases h : i = j
  · subst h; simp [hi]
  · simp [h]
theorem clStep_small {xs : List Int} (h : Small xs) {k i : Nat} (hk : k < xs.length) (hi : i < xs.length) : Small (clStep xs k i) := by
  unfold clStep
  split
  · intro j hj
    rw [nth_set hi]
    have h1 := h i hi
    have h2 := h k hk
    split
    · have : (nth xs i).toNat ||| (nth xs k).toNat < 2 ^ 10 := or_lt (by omega) (by omega)
      omega
    · exact h j (by simpa using hj)
  · exact h
theorem clRow_small {xs : List Int} (h : Small xs) {k : Nat} (hk : k < xs.length) : ∀ i, i ≤ xs.length → Small (clRow xs k i)
  | 0, _ => h
  | i+1, hi => clStep_small (clRow_small h hk i (by omega)) (by rw [clRow_len]; exact hk) (by rw [clRow_len]; omega)
theorem clAll_small {xs : List Int} (h : Small xs) : ∀ k, k ≤ xs.length → Small (clAll xs k)
  | 0, _ => h
  | k+1, hk => clRow_small (clAll_small h k (by omega)) (by rw [clAll_len]; omega) _ (by rw [clAll_len]; omega)
theorem RelP.sm {n : Int} {xs : List Int} (h : RelP n xs) : Small xs := fun k hk => ⟨h.pos k hk, h.small k hk⟩
theorem set_ints (xs : List Int) (i : Nat) (x : Int) : (xs.map (Value.int .i64)).set i (.int .i64 x) = (xs.set i x).map (Value.int .i64) := by
  rw [List.map_set]
/-- a store into an owned row -/
theorem OwnI.put {w : World} {B g n cap : Nat} {xs : List Int} (h : OwnI w B (.slice (some ⟨g, 0, none⟩) n cap) xs) (hn : n = xs.length) (i : Nat) (x : Int) :
    OwnI (w.setCell ⟨g, i, none⟩ (.int .i64 x)) B (.slice (some ⟨g, 0, none⟩) n cap) (xs.set i x) ∧ w.grownBy (w.setCell ⟨g, i, none⟩ (.int .i64 x)) (some g) := by
  subst hn
  have hst := World.ownsRow.stored h i (.int .i64 x)
  rw [set_ints] at hst
  refine ⟨?_, hst.2⟩
  unfold OwnI
  rw [List.length_set]
  exact hst.1
theorem OwnI.at' {w : World} {B g n cap : Nat} {xs : List Int} (h : OwnI w B (.slice (some ⟨g, 0, none⟩) n cap) xs) (hn : n = xs.length) {i : Nat} (hi : i < xs.length) :
    w.cell? ⟨g, i, none⟩ = some (.int .i64 (nth xs i)) ∧ w.frozen? ⟨g, i, none⟩ = false := by
  subst hn
  refine ⟨?_, World.ownsRow.frozenAt h i⟩
  rw [World.ownsRow.cellAt h i (by omega)]
  simp [nth, hi]
theorem OwnI.head {w : World} {B n cap : Nat} {a : Option Addr} {xs : List Int} (h : OwnI w B (.slice a n cap) xs) (hp : 0 < xs.length) : ∃ g, a = some ⟨g, 0, none⟩ ∧ B ≤ g ∧ g < w.heap.size := by
  rcases h.2 with ⟨e, h0⟩ | ⟨g, c, cur, e, hb, hg, _⟩
  · omega
  · simp only [Value.slice.injEq] at e
    exact ⟨g, e.1, hb, (Array.getElem?_eq_some_iff.1 hg).1⟩
def cloN (n : Int) (xs : List Int) : Int := if relB n xs then n else 0
def cloL (n : Int) (xs : List Int) : List Int := if relB n xs then clAll xs xs.length else []
theorem cloL_len (n : Int) (xs : List Int) : (cloL n xs).length ≤ 1048576 := by
  unfold cloL
  split
  · rename_i h
    have hp := relB_p h
    have := hp.len
    have := hp.n1
    rw [clAll_len]
    omega
  · simp

/-- the list of f 0, .., f (k - 1) -/
def fmap (f : Nat → Int) (k : Nat) : List Int := (List.range k).map f
theorem fmap_len (f : Nat → Int) (k : Nat) : (fmap f k).length = k := by simp [fmap]
theorem fmap_nth (f : Nat → Int) {k i : Nat} (h : i < k) : nth (fmap f k) i = f i := by simp [nth, fmap, h]
theorem fmap_succ (f : Nat → Int) (k : Nat) : fmap f (k+1) = fmap f k ++ [f k] := by simp [fmap, List.range_succ]
/-- one store more into a row that was made -/
theorem fill_step (f : Nat → Int) (m k : Nat) (h : k < m) :
    ((fmap f k ++ List.replicate (m - k) (0:Int)).map (Value.int .i64)).set k (.int .i64 (f k)) = (fmap f (k+1) ++ List.replicate (m - (k+1)) (0:Int)).map (Value.int .i64) := by
  apply List.ext_getElem?
  intro j
  rw [List.getElem?_set]
  by_cases hj : k = j
  · subst hj
    rw [if_pos rfl, if_pos (by simp [fmap_len]; omega), List.getElem?_map, List.getElem?_append_left (by rw [fmap_len]; omega)]
    simp [fmap]
  · simp only [hj, if_false, List.getElem?_map, List.getElem?_append, fmap_len, List.getElem?_replicate]
    by_cases h1 : j < k
    · have h2 : j < k + 1 := by omega
      simp [h1, h2, fmap]
    · have h2 : ¬ j < k + 1 := by omega
      have h3 : j - k < m - k ↔ j - (k+1) < m - (k+1) := by omega
      simp [h1, h2, h3]
theorem fill_end (f : Nat → Int) (m : Nat) : fmap f m ++ List.replicate (m - m) (0:Int) = fmap f m := by simp
/-- the row that a make of m integers has made -/
theorem made_ints {w1 : World} {B : Nat} {v : Value} {m : Nat} (f : Nat → Int) (h : w1.ownsRow B 3 1 v m (madeCells (Value.int .i64 0).cells (m * 1)).toList) :
    w1.ownsRow B 3 1 v m ((fmap f 0 ++ List.replicate (m - 0) (0:Int)).map (Value.int .i64)) := by
  simpa [Value.cells, toList_madeCells_one, fmap] using h

/-- a row of m integers of which the first k are filled, f 0 .. -/
def rowF (f : Nat → Int) (m k : Nat) : List Int := fmap f k ++ List.replicate (m - k) 0
theorem rowF_len (f : Nat → Int) {m k : Nat} (h : k ≤ m) : (rowF f m k).length = m := by simp [rowF, fmap_len]; omega
theorem rowF_set (f : Nat → Int) {m k : Nat} (h : k < m) : (rowF f m k).set k (f k) = rowF f m (k+1) := by
  apply List.ext_getElem?
  intro j
  rw [List.getElem?_set]
  by_cases hj : k = j
  · subst hj
    rw [if_pos rfl, if_pos (by rw [rowF_len f (by omega)]; exact h), rowF, List.getElem?_append_left (by rw [fmap_len]; omega)]
    simp [fmap]
  · simp only [hj, if_false, rowF, List.getElem?_append, fmap_len, List.getElem?_replicate]
    by_cases h1 : j < k
    · have h2 : j < k + 1 := by omega
      simp [h1, h2, fmap]
    · have h2 : ¬ j < k + 1 := by omega
      have h3 : j - k < m - k ↔ j - (k+1) < m - (k+1) := by omega
      simp [h1, h2, h3]
theorem rowF_zero (f : Nat → Int) {m k : Nat} (h : k < m) : (rowF f m k).set k 0 = rowF f m k := by
  apply List.ext_getElem?
  intro j
  rw [List.getElem?_set]
  by_cases hj : k = j
  · subst hj
    rw [if_pos rfl, if_pos (by rw [rowF_len f (by omega)]; exact h), rowF, List.getElem?_append_right (by rw [fmap_len]; omega)]
    rw [fmap_len, Nat.sub_self, List.getElem?_replicate, if_pos (by omega)]
  · simp [hj]
theorem rowF_end (f : Nat → Int) (m : Nat) : rowF f m m = fmap f m := by simp [rowF]
theorem made_row {w1 : World} {B : Nat} {v : Value} {m : Nat} (f : Nat → Int) (h : w1.ownsRow B 3 1 v m (madeCells (Value.int .i64 0).cells (m * 1)).toList) : OwnI w1 B v (rowF f m 0) := by
  unfold OwnI
  rw [rowF_len f (Nat.zero_le _)]
  simpa [Value.cells, toList_madeCells_one, fmap, rowF] using h

theorem below_grown_none {w w' : World} {B : Nat} (h : w.grownBy w' none) (hB : B ≤ w.heap.size) : Below B w w' :=
  below_of_grown (v := .slice none 0 0) h (fun b e => by simp [Value.ownBlock] at e) hB

def upd {α : Type} (f : Nat → α) (i : Nat) (x : α) : Nat → α := fun k => if k = i then x else f k
theorem upd_at {α : Type} (f : Nat → α) (i : Nat) (x : α) : upd f i x i = x := by simp [upd]
theorem upd_ne {α : Type} (f : Nat → α) {i k : Nat} (x : α) (h : k ≠ i) : upd f i x k = f k := by simp [upd, h]
theorem map_upd (V : Nat → Value) (v : Value) {i n : Nat} (h : i < n) : ((List.range n).map V).set i v = (List.range n).map (upd V i v) := by
  apply List.ext_getElem?
  intro j
  rw [List.getElem?_set]
  by_cases e : i = j
  · subst e
    rw [if_pos rfl, if_pos (by simpa using h)]
    simp [h, upd]
  · simp only [e, if_false, List.getElem?_map, List.getElem?_range']
    by_cases hj : j < n
    · simp [hj, upd, show ¬ j = i from fun e2 => e e2.symm]
    · simp [hj]
/-- a table that the call makes: the outer row in block g, each row in a block of its own -/
structure TabO (w : World) (B g n c : Nat) (V : Nat → Value) (R : Nat → List Int) : Prop where
  own : w.ownsRow B 25 1 (.slice (some ⟨g, 0, none⟩) n c) n ((List.range n).map V)
  row : ∀ k, k < n → OwnI w B (V k) (R k)
  apart : ∀ k, k < n → ∀ d, (V k).ownBlock = some d → d ≠ g
  pair : ∀ j k, j < n → k < n → j ≠ k → ∀ d, (V j).ownBlock = some d → (V k).ownBlock ≠ some d
theorem TabO.gb {w : World} {B g n c : Nat} {V : Nat → Value} {R : Nat → List Int} (h : TabO w B g n c V R) : B ≤ g ∧ g < w.heap.size := World.ownsRow.lt h.own g rfl
theorem TabO.below {w w' : World} {B B' g n c : Nat} {V : Nat → Value} {R : Nat → List Int} (h : TabO w B g n c V R) (hb : Below B' w w') (hB : w.heap.size ≤ B') : TabO w' B g n c V R :=
  ⟨ownsRow_bel h.own hb hB, fun k hk => (h.row k hk).below hb hB, h.apart, h.pair⟩
theorem TabO.at {w : World} {B g n c : Nat} {V : Nat → Value} {R : Nat → List Int} (h : TabO w B g n c V R) {k : Nat} (hk : k < n) : w.cell? ⟨g, k, none⟩ = some (V k) ∧ w.frozen? ⟨g, k, none⟩ = false := by
  refine ⟨?_, World.ownsRow.frozenAt h.own k⟩
  rw [World.ownsRow.cellAt h.own k (by omega)]
  simp [hk]
theorem TabO.set {w : World} {B g n c : Nat} {V : Nat → Value} {R : Nat → List Int} (h : TabO w B g n c V R) {i : Nat} (hi : i < n) {v : Value} {r : List Int} (hr : OwnI w B v r) (hv : ∀ d, v.ownBlock = some d → d ≠ g ∧ ∀ k, k < n → (V k).ownBlock ≠ some d) :
    TabO (w.setCell ⟨g, i, none⟩ v) B g n c (upd V i v) (upd R i r) := by
  have hst := World.ownsRow.stored h.own i v
  rw [map_upd V v hi] at hst
  refine ⟨hst.1, fun k hk => ?_, fun k hk d hd => ?_, fun j k hj hk hne d hd => ?_⟩
  · by_cases e : k = i
    · subst e
      rw [upd_at, upd_at]
      refine hr.kept hst.2 ?_
      cases hvb : v.ownBlock with
      | none => exact .inl rfl
      | some d => exact .inr (fun e => (hv d hvb).1 (by simpa using e))
    · rw [upd_ne _ _ e, upd_ne _ _ e]
      refine (h.row k hk).kept hst.2 ?_
      cases hvb : (V k).ownBlock with
      | none => exact .inl rfl
      | some d => exact .inr (fun e2 => h.apart k hk d hvb (by simpa using e2))
  · by_cases e : k = i
    · subst e; rw [upd_at] at hd; exact (hv d hd).1
    · rw [upd_ne _ _ e] at hd; exact h.apart k hk d hd
  · by_cases e : j = i
    · subst e
      rw [upd_at] at hd
      rw [upd_ne _ _ (fun e2 => hne e2.symm)]
      exact (hv d hd).2 k hk
    · rw [upd_ne _ _ e] at hd
      by_cases e2 : k = i
      · subst e2
        rw [upd_at]
        intro h2
        exact (hv d h2).2 j hj hd
      · rw [upd_ne _ _ e2]
        exact h.pair j k hj hk hne d hd
theorem TabO.put {w : World} {B g n c : Nat} {V : Nat → Value} {R : Nat → List Int} (h : TabO w B g n c V R) {i gr m cr : Nat} (hi : i < n) (hV : V i = .slice (some ⟨gr, 0, none⟩) m cr) (hm : m = (R i).length) (j : Nat) (x : Int) :
    TabO (w.setCell ⟨gr, j, none⟩ (.int .i64 x)) B g n c V (upd R i ((R i).set j x)) := by
  have hri := h.row i hi
  rw [hV] at hri
  have hp := hri.put hm j x
  have hgr : gr ≠ g := h.apart i hi gr (by rw [hV]; rfl)
  refine ⟨h.own.kept hp.2 (.inr (by simp [Value.ownBlock]; omega)), fun k hk => ?_, h.apart, h.pair⟩
  by_cases e : k = i
  · subst e
    rw [upd_at, hV]
    exact hp.1
  · rw [upd_ne _ _ e]
    refine (h.row k hk).kept hp.2 ?_
    cases hvb : (V k).ownBlock with
    | none => exact .inl rfl
    | some d => exact .inr (fun e2 => by
        have : d = gr := by simpa using e2
        subst this
        exact h.pair k i hk hi e d hvb (by rw [hV]; rfl))
/-- the outer row that was made: rows that are nil -/
theorem TabO.made {w w1 : World} {B n c : Nat} (h : w1.ownsRow B 25 1 (.slice (some ⟨w.heap.size, 0, none⟩) n c) n (madeCells (Value.slice none 0 0).cells (n * 1)).toList) : TabO w1 B w.heap.size n c (fun _ => .slice none 0 0) (fun _ => []) := by
  refine ⟨?_, fun k _ => OwnI.nil _ _, fun k _ d hd => (by cases hd), fun j k _ _ _ d hd => (by cases hd)⟩
  have e : (madeCells (Value.slice none 0 0).cells (n * 1)).toList = (List.range n).map (fun _ => Value.slice none 0 0) := by
    apply List.ext_getElem?
    intro j
    simp [madeCells, Value.cells, Nat.mod_one]
  rw [← e]
  exact h

/-- the rows of a table -/
def TabF (R : Nat → List Int) (F : Nat → Nat → Nat) (n : Nat) : Prop := ∀ k, k < n → R k = fmap (fun j => ((F k j : Nat) : Int)) 14
set_option maxRecDepth 100000 in
theorem asOnes_any (w : World) :
    Calls Try.prog 53 #[.int .i64 14] w fun e w' => ∃ g c V R, e = .returned (.slice (some ⟨g, 0, none⟩) 14 c) ∧ TabO w' w.heap.size g 14 c V R ∧ TabF R (fun _ _ => 1) 14 ∧ Below w.heap.size w w' := by
  obtain ⟨i0, hi, hz0, hz1, hz2⟩ := info_parts infoInt
  obtain ⟨j0, hj, hy0, hy1, hy2⟩ := info_parts infoSlice
  go_enter Try.func53, Try.ntmps53
  go_wp2_with (at_make; refine wpList_make_full _ rfl (.tmp 6) (.tmp 6) 65 rfl w.heap.size 25 j0 (.slice none 0 0) 1 Try.underlying65 hj hy0 hy1 .i64 .i64 _ _ 14 rfl rfl rfl rfl (by rw [hy2]; omega) (by unfold maxLen; omega) (Nat.le_refl _) ?_; intro w1 hown hgrow)
  have b1 : Below w.heap.size w w1 := below_grown_none hgrow (Nat.le_refl _)
  have t1 := TabO.made hown
  obtain ⟨g, hg⟩ : ∃ g, g = w.heap.size := ⟨_, rfl⟩
  rw [← hg] at t1 ⊢
  have hgB : w.heap.size ≤ g := by omega
  have T1 : TabO w1 w.heap.size g 14 14 (fun _ => .slice none 0 0) (fun _ => []) := by rw [hg]; rw [hg] at t1; exact t1
  clear hown hgrow t1 hg
  go_wp2_with fail
  go_loopw [10] (fun i wr => ∃ (k : Nat) (V : Nat → Value) (R : Nat → List Int), k ≤ 14 ∧ i = .int .i64 k ∧ TabO wr w.heap.size g 14 14 V R ∧ TabF R (fun _ _ => 1) k ∧ Below w.heap.size w wr) (fun i _ => 14 - (intOf i).toNat)
  case atStart => exact ⟨0, _, _, Nat.zero_le _, rfl, T1, fun k hk => by omega, b1⟩
  case round =>
    clear T1 b1
    obtain ⟨k, V, R, hk, rfl, hT, hF, hb⟩ := hrel
    have hbs := hb.size
    have hgl := hT.gb.2
    have HF := Lib.hid hF
    clear hF
    by_cases hlt : k < 14
    · have k1 : (k : Int) < 14 := by omega
      have ⟨ck, fk⟩ := hT.at hlt
      go_wp2_with (at_make; refine wpList_make_full _ rfl (.tmp 15) (.tmp 15) 25 rfl w.heap.size 3 i0 (.int .i64 0) 1 Try.underlying25 hi hz0 hz1 .i64 .i64 _ _ 14 rfl rfl rfl rfl (by rw [hz2]; omega) (by unfold maxLen; omega) hbs ?_; intro w2 hown2 hgrow2; have b2 := below_grown_none hgrow2 (Nat.le_refl _); have T2 := hT.below b2 (Nat.le_refl _); have ⟨ck2, fk2⟩ := T2.at hlt)
      have T3 := T2.set hlt (made_row (fun _ => 1) hown2) (by
        intro d hd
        have hd2 : wr.heap.size = d := by simpa [Value.ownBlock] using hd
        refine ⟨by omega, fun j hj e => ?_⟩
        have := ((hT.row j hj).lt d e).2
        omega)
      have F3 : TabF (upd R k (rowF (fun _ => 1) 14 0)) (fun _ _ => 1) k := fun j hj => by rw [upd_ne _ _ (by omega)]; exact HF.out j hj
      obtain ⟨gr, hgr⟩ : ∃ gr, gr = wr.heap.size := ⟨_, rfl⟩
      rw [← hgr] at T3 ⊢
      have b3 := (hb.trans (b2.mono hbs)).setCell (p := ⟨g, k, none⟩) hgB (.slice (some ⟨gr, 0, none⟩) 14 14)
      have hgrB : w.heap.size ≤ gr := by omega
      clear hown2 hgrow2 T2 ck2 fk2 b2 hT HF ck fk hb hbs hgl hgr
      go_loopw [23] (fun i wi => ∃ (m : Nat) (V2 : Nat → Value) (R2 : Nat → List Int), m ≤ 14 ∧ i = .int .i64 m ∧ TabO wi w.heap.size g 14 14 V2 R2 ∧ TabF R2 (fun _ _ => 1) k ∧ V2 k = .slice (some ⟨gr, 0, none⟩) 14 14 ∧ R2 k = rowF (fun _ => 1) 14 m ∧ Below w.heap.size w wi) (fun i _ => 14 - (intOf i).toNat)
      case atStart => exact ⟨0, _, _, Nat.zero_le _, rfl, T3, F3, upd_at _ _ _, upd_at _ _ _, b3⟩
      case round =>
        clear T3 F3 b3
        obtain ⟨m, V2, R2, hm, rfl, hT, hF, hV, hR, hb⟩ := hrel
        have HF := Lib.hid hF
        have HV := Lib.hid hV
        have HR := Lib.hid hR
        have hRl : (R2 k).length = 14 := by rw [hR, rowF_len _ hm]
        clear hF hR hV
        by_cases hlm : m < 14
        · have m1 : (m : Int) < 14 := by omega
          have ⟨ck, fk⟩ := hT.at hlt
          rw [HV.out] at ck
          have ho := hT.row k hlt
          rw [HV.out] at ho
          have ⟨cm, fm⟩ := ho.at' hRl.symm (i := m) (by omega)
          have T4 := Lib.hid (hT.put hlt HV.out hRl.symm m 1)
          have F4 : Hid (TabF (upd R2 k ((R2 k).set m 1)) (fun _ _ => 1) k) := fun j hj => by rw [upd_ne _ _ (by omega)]; exact HF.out j hj
          have H4 : Hid ((R2 k).set m 1 = rowF (fun _ => 1) 14 (m+1)) := by rw [Hid, HR.out]; exact rowF_set (fun _ => 1) hlm
          clear ho hT hRl
          go_wp2_with fail
          go_roundw
          case rel => exact ⟨m + 1, V2, _, by omega, by go_num, T4.out, F4.out, HV.out, by rw [upd_at]; exact H4.out, hb.setCell (p := ⟨gr, m, none⟩) hgrB _⟩
          case measure => simp [intOf]; omega
        · obtain rfl : m = 14 := by omega
          have F5 : Hid (TabF R2 (fun _ _ => 1) (k+1)) := fun j hj => by
            by_cases e : j = k
            · subst e; rw [HR.out, rowF_end]; rfl
            · exact HF.out j (by omega)
          clear hRl
          go_wp2_with fail
          go_roundw
          case rel => exact ⟨k + 1, V2, R2, by omega, by go_num, hT, F5.out, hb⟩
          case measure => simp [intOf]; omega
    · obtain rfl : k = 14 := by omega
      go_wp2_with fail
      go_ret
      exact ⟨g, 14, V, R, rfl, hT, HF.out, hb⟩

theorem TabO.mono {w : World} {B B' g n c : Nat} {V : Nat → Value} {R : Nat → List Int} (h : TabO w B g n c V R) (hB : B' ≤ B) : TabO w B' g n c V R := by
  refine ⟨⟨h.own.1, ?_⟩, fun k hk => (h.row k hk).mono hB, h.apart, h.pair⟩
  rcases h.own.2 with hn | ⟨g, cap, cur, e, hb, rest⟩
  · exact .inl hn
  · exact .inr ⟨g, cap, cur, e, by omega, rest⟩
/-- what a table's rows read as, in whatever world that leaves the older blocks alone -/
theorem TabO.look {w : World} {B g c : Nat} {V : Nat → Value} {R : Nat → List Int} {F : Nat → Nat → Nat} (h : TabO w B g 14 c V R) (hF : TabF R F 14) {k x : Nat} (hk : k < 14) (hx : x < 14) :
    ∃ b off c', w.cell? ⟨g, k, none⟩ = some (.slice (some ⟨b, off, none⟩) 14 c') ∧ w.cell? ⟨b, off + x, none⟩ = some (.int .i64 ((F k x : Nat) : Int)) := by
  have ho := h.row k hk
  have hR := hF k hk
  have hl : (R k).length = 14 := by rw [hR, fmap_len]
  obtain ⟨a', c', e'⟩ := ho.form
  rw [e'] at ho
  obtain ⟨b, off, e2, _, hc⟩ := ho.rd.cell x (by omega)
  subst e2
  rw [hl] at e'
  refine ⟨b, off, c', by rw [(h.at hk).1, e'], ?_⟩
  rw [hc, hR, fmap_nth _ hx]
set_option maxRecDepth 100000 in
set_option maxHeartbeats 4000000 in
theorem asWays_any (d : Nat) (w : World) (hd : d ≤ 12) :
    Calls Try.prog 45 #[.int .i64 (d : Int)] w fun e w' => ∃ g c V R, e = .returned (.slice (some ⟨g, 0, none⟩) 14 c) ∧ TabO w' w.heap.size g 14 c V R ∧ TabF R (tW d) 14 ∧ Below w.heap.size w w' := by
  obtain ⟨i0, hi, hz0, hz1, hz2⟩ := info_parts infoInt
  obtain ⟨j0, hj, hy0, hy1, hy2⟩ := info_parts infoSlice
  go_enter Try.func45, Try.ntmps45
  go_wp2_with fail
  refine (asOnes_any _).mono ?_
  rintro e w1 ⟨g, c, V, R, rfl, hT, hF, hb1⟩
  go_wp2_with fail
  go_loopw [0, 4] (fun m t wr => ∃ (e g c : Nat) (V : Nat → Value) (R : Nat → List Int), e ≤ d ∧ m = .int .i64 ((d - e : Nat) : Int) ∧ t = .slice (some ⟨g, 0, none⟩) 14 c ∧ TabO wr w.heap.size g 14 c V R ∧ TabF R (tW e) 14 ∧ Below w.heap.size w wr) (fun m _ _ => (intOf m).toNat)
  case atStart => exact ⟨0, g, c, V, R, Nat.zero_le _, rfl, rfl, hT, hF, hb1⟩
  case round =>
    clear hT hF hb1
    obtain ⟨e, g, c, V, R, he, rfl, rfl, hT, hF, hb⟩ := hrel
    obtain ⟨wo, rfl⟩ : ∃ wo : World, wo = wr := ⟨_, rfl⟩
    by_cases hlt : e < d
    · obtain ⟨m, hm⟩ : ∃ m, d - e = m + 1 := ⟨d - e - 1, by omega⟩
      have HM : Hid (d - (e + 1) = m) := by rw [Hid]; omega
      have hgl := hT.gb
      have hbs := hb.size
      rw [hm]
      have hm0 : (0 : Int) < ((m + 1 : Nat) : Int) := by omega
      have hm1 : m + 1 ≤ 12 := by omega
      clear hm
      go_wp2_with (at_make; refine wpList_make_full _ rfl (.tmp 16) (.tmp 16) 65 rfl wo.heap.size 25 j0 (.slice none 0 0) 1 Try.underlying65 hj hy0 hy1 .i64 .i64 _ _ 14 rfl rfl rfl rfl (by rw [hy2]; omega) (by unfold maxLen; omega) (Nat.le_refl _) ?_; intro w2 hown hgrow)
      have T1 := TabO.made hown
      have b1 : Below wo.heap.size wo w2 := below_grown_none hgrow (Nat.le_refl _)
      obtain ⟨B2, hB2⟩ : ∃ B2, B2 = wo.heap.size := ⟨_, rfl⟩
      obtain ⟨g2, hg2⟩ : ∃ g2, g2 = wo.heap.size := ⟨_, rfl⟩
      have hB2g : B2 ≤ g2 := by omega
      have HB2 := Lib.hid hB2
      have HBW : Hid (w.heap.size ≤ B2) := by rw [Hid]; omega
      have T2 : TabO w2 B2 g2 14 14 (fun _ => .slice none 0 0) (fun _ => []) := by rw [hB2, hg2]; exact T1
      rw [← hB2] at b1 hbs hgl
      rw [← hg2]
      have HT := Lib.hid hT
      have HF := Lib.hid hF
      have HB := Lib.hid hb
      clear hown hgrow T1 hg2 hB2 hT hF hb
      go_wp2_with fail
      go_loopw [20] (fun i wr => ∃ (a : Nat) (V2 : Nat → Value) (R2 : Nat → List Int), a ≤ 14 ∧ i = .int .i64 a ∧ TabO wr B2 g2 14 14 V2 R2 ∧ TabF R2 (tW (e+1)) a ∧ Below B2 wo wr) (fun i _ => 14 - (intOf i).toNat)
      case atStart => exact ⟨0, _, _, Nat.zero_le _, rfl, T2, fun k hk => by omega, b1⟩
      case round =>
        clear T2 b1
        obtain ⟨a, V2, R2, ha, rfl, hT2, hF2, hb2⟩ := hrel
        have HF2 := Lib.hid hF2
        have hbs2 := hb2.size
        have hgl2 := hT2.gb.2
        clear hF2
        by_cases hla : a < 14
        · have a1 : (a : Int) < 14 := by omega
          have ⟨ck, fk⟩ := hT2.at hla
          have hB2w : B2 ≤ wr.heap.size := by have := HB2.out; omega
          go_wp2_with (at_make; refine wpList_make_full _ rfl (.tmp 25) (.tmp 25) 25 rfl B2 3 i0 (.int .i64 0) 1 Try.underlying25 hi hz0 hz1 .i64 .i64 _ _ 14 rfl rfl rfl rfl (by rw [hz2]; omega) (by unfold maxLen; omega) hB2w ?_; intro w3 hown3 hgrow3; have b3 := below_grown_none hgrow3 (Nat.le_refl _); have T3 := hT2.below b3 (Nat.le_refl _); have ⟨ck3, fk3⟩ := T3.at hla)
          have T4 := T3.set hla (made_row (fun l => ((tW (e+1) a l : Nat) : Int)) hown3) (by
            intro d hd
            have hd2 : wr.heap.size = d := by simpa [Value.ownBlock] using hd
            refine ⟨by omega, fun j hj e => ?_⟩
            have := ((hT2.row j hj).lt d e).2
            omega)
          have F4 : TabF (upd R2 a (rowF (fun l => ((tW (e+1) a l : Nat) : Int)) 14 0)) (tW (e+1)) a := fun j hj => by rw [upd_ne _ _ (by omega)]; exact HF2.out j hj
          obtain ⟨gr, hgr⟩ : ∃ gr, gr = wr.heap.size := ⟨_, rfl⟩
          rw [← hgr] at T4 ⊢
          have b4 := (hb2.trans (b3.mono hB2w)).setCell (p := ⟨g2, a, none⟩) hB2g (.slice (some ⟨gr, 0, none⟩) 14 14)
          have hgrB : B2 ≤ gr := by omega
          have HBW2 := Lib.hid hB2w
          clear hown3 hgrow3 T3 ck3 fk3 b3 hT2 ck fk hb2 hbs2 hgl2 hgr hB2w HF2
          go_loopw [33] (fun i wi => ∃ (m : Nat) (V2 : Nat → Value) (R2 : Nat → List Int), m ≤ 14 ∧ i = .int .i64 m ∧ TabO wi B2 g2 14 14 V2 R2 ∧ TabF R2 (tW (e+1)) a ∧ V2 a = .slice (some ⟨gr, 0, none⟩) 14 14 ∧ R2 a = rowF (fun l => ((tW (e+1) a l : Nat) : Int)) 14 m ∧ Below B2 wo wi) (fun i _ => 14 - (intOf i).toNat)
          case atStart => exact ⟨0, _, _, Nat.zero_le _, rfl, T4, F4, upd_at _ _ _, upd_at _ _ _, b4⟩
          case round =>
            clear T4 F4 b4
            obtain ⟨l, V2, R2, hl, rfl, hT2, hF2, hV, hR, hb2⟩ := hrel
            have HF2 := Lib.hid hF2
            have HV := Lib.hid hV
            have HR := Lib.hid hR
            have hRl : (R2 a).length = 14 := by rw [hR, rowF_len _ hl]
            clear hF2 hR hV
            by_cases hll : l < 14
            · have l1 : (l : Int) < 14 := by omega
              have HTO := Lib.hid (HT.out.below hb2 (by have := HB2.out; omega))
              obtain ⟨wl, hwl⟩ : ∃ wl, wl = wr := ⟨_, rfl⟩
              rw [← hwl] at hT2 hb2 HTO ⊢
              have HRl := Lib.hid hRl
              have HT2 := Lib.hid hT2
              have HB2' := Lib.hid hb2
              clear hT2 hRl hb2 hwl
              go_wp2_with fail
              go_loopw [8, 9] (fun s x wx => ∃ j : Nat, x = .int .i64 j ∧ s = .int .i64 ((pS e a l j : Nat) : Int) ∧ j ≤ a + 2 ∧ j ≤ 14 ∧ (a + 1 < 14 ∨ j = 0) ∧ wx = wl) (fun _ x _ => 14 - (intOf x).toNat)
              case atStart => exact ⟨0, rfl, rfl, by omega, by omega, .inr rfl, rfl⟩
              case round =>
                obtain ⟨j, rfl, rfl, hj1, hj2, hj3, hw⟩ := hrel
                subst hw
                have hPS := pS_le e a l hj2
                have hP := pow14 (s := e + 1) (by omega)
                by_cases hcx : j < a + 2 ∧ a + 1 < 14
                · obtain ⟨hja, haa⟩ := hcx
                  have x1 : (j : Int) ≤ (a : Int) + 1 := by omega
                  have x2 : (j : Int) < 14 := by omega
                  have x3 : (a : Int) + 1 < 14 := by omega
                  by_cases hlj : l < j
                  · have hlj' : (l : Int) < (j : Int) := by omega
                    have HS : Hid (pS e a l (j+1) = pS e a l j + tW e (a+1) j) := by
                      rw [Hid, pS, pS, sumTo]; congr 1; rw [if_pos hlj]
                    have hW := tW_le e (a+1) j
                    have hP2 := pow14 (s := e) (by omega)
                    have ⟨bb, off, c', k1, k2⟩ := HTO.out.look HF.out (k := a + 1) (x := j) (by omega) (by omega)
                    have hsum : IntKind.i64.wrap ((pS e a l j : Nat) + ((tW e (a+1) j : Nat) : Int)) = ((pS e a l (j+1) : Nat) : Int) := by rw [HS.out, i64_wrap, IntWalk.wrap64_in _ ⟨by omega, by omega⟩]; omega
                    obtain ⟨P, hPP⟩ : ∃ P, P = pS e a l j := ⟨_, rfl⟩
                    obtain ⟨P1, hPP1⟩ : ∃ P1, P1 = pS e a l (j+1) := ⟨_, rfl⟩
                    obtain ⟨W, hWW⟩ : ∃ W, W = tW e (a+1) j := ⟨_, rfl⟩
                    rw [← hPP, ← hWW, ← hPP1] at hsum
                    rw [← hWW] at k2 hW
                    rw [← hPP] at hPS ⊢
                    have HP1 := Lib.hid hPP1
                    clear hPP hWW hPP1
                    go_wp2_with fail
                    exact ⟨⟨j + 1, by go_num, by rw [HP1.out], by omega, by omega, .inl haa, trivial⟩, by simp [intOf]; omega⟩
                  · have hlj' : ¬ (l : Int) < (j : Int) := by omega
                    have HS : Hid (pS e a l (j+1) = pS e a l j + tW e a j) := by
                      rw [Hid, pS, pS, sumTo]; congr 1; rw [if_neg hlj]
                    have hW := tW_le e a j
                    have hP2 := pow14 (s := e) (by omega)
                    have ⟨bb, off, c', k1, k2⟩ := HTO.out.look HF.out (k := a) (x := j) (by omega) (by omega)
                    have hsum : IntKind.i64.wrap ((pS e a l j : Nat) + ((tW e a j : Nat) : Int)) = ((pS e a l (j+1) : Nat) : Int) := by rw [HS.out, i64_wrap, IntWalk.wrap64_in _ ⟨by omega, by omega⟩]; omega
                    obtain ⟨P, hPP⟩ : ∃ P, P = pS e a l j := ⟨_, rfl⟩
                    obtain ⟨P1, hPP1⟩ : ∃ P1, P1 = pS e a l (j+1) := ⟨_, rfl⟩
                    obtain ⟨W, hWW⟩ : ∃ W, W = tW e a j := ⟨_, rfl⟩
                    rw [← hPP, ← hWW, ← hPP1] at hsum
                    rw [← hWW] at k2 hW
                    rw [← hPP] at hPS ⊢
                    have HP1 := Lib.hid hPP1
                    clear hPP hWW hPP1
                    go_wp2_with fail
                    exact ⟨⟨j + 1, by go_num, by rw [HP1.out], by omega, by omega, .inl haa, trivial⟩, by simp [intOf]; omega⟩
                · have HSM : Hid (pS e a l j = tW (e+1) a l) := by
                    rw [Hid, tW]
                    by_cases haa : a + 1 < 14
                    · rw [if_pos haa]
                      have : j = a + 2 := by omega
                      subst this
                      rfl
                    · rw [if_neg haa]
                      have : j = 0 := by omega
                      subst this
                      rfl
                  have ⟨ck, fk⟩ := HT2.out.at hla
                  rw [HV.out] at ck
                  have ho := HT2.out.row a hla
                  rw [HV.out] at ho
                  have ⟨cm, fm⟩ := ho.at' HRl.out.symm (i := l) (by have := HRl.out; omega)
                  obtain ⟨P, hPP⟩ : ∃ P, P = pS e a l j := ⟨_, rfl⟩
                  rw [← hPP] at hPS ⊢
                  have HP1 : Hid (P = tW (e+1) a l) := by rw [Hid, hPP, HSM.out]
                  have T4 := Lib.hid (HT2.out.put hla HV.out HRl.out.symm l ((P : Nat) : Int))
                  have F4 : Hid (TabF (upd R2 a ((R2 a).set l ((P : Nat) : Int))) (tW (e+1)) a) := fun j hj => by rw [upd_ne _ _ (by omega)]; exact HF2.out j hj
                  have H4 : Hid ((R2 a).set l ((P : Nat) : Int) = rowF (fun l => ((tW (e+1) a l : Nat) : Int)) 14 (l+1)) := by rw [Hid, HR.out, HP1.out]; exact rowF_set (fun l => ((tW (e+1) a l : Nat) : Int)) hll
                  have B4 := Lib.hid (HB2'.out.setCell (p := ⟨gr, l, none⟩) hgrB (.int .i64 ((P : Nat) : Int)))
                  clear hPP ho
                  by_cases haa : a + 1 < 14
                  · have x1 : (a : Int) + 1 < (j : Int) := by omega
                    have x2 : (a : Int) + 1 < 14 := by omega
                    go_wp2_with fail
                    go_roundw
                    case rel => exact ⟨l + 1, V2, _, by omega, by go_num, T4.out, F4.out, HV.out, by rw [upd_at]; exact H4.out, B4.out⟩
                    case measure => simp [intOf]; omega
                  · have hj0 : j = 0 := by omega
                    subst hj0
                    have x1 : (0 : Int) ≤ (a : Int) + 1 := by omega
                    have x2 : ¬ (a : Int) + 1 < 14 := by omega
                    go_wp2_with fail
                    go_roundw
                    case rel => exact ⟨l + 1, V2, _, by omega, by go_num, T4.out, F4.out, HV.out, by rw [upd_at]; exact H4.out, B4.out⟩
                    case measure => simp [intOf]; omega
            · obtain rfl : l = 14 := by omega
              have F5 : Hid (TabF R2 (tW (e+1)) (a+1)) := fun j hj => by
                by_cases e2 : j = a
                · subst e2; rw [HR.out, rowF_end]
                · exact HF2.out j (by omega)
              clear hRl
              go_wp2_with fail
              go_roundw
              case rel => exact ⟨a + 1, V2, R2, by omega, by go_num, hT2, F5.out, hb2⟩
              case measure => simp [intOf]; omega
        · obtain rfl : a = 14 := by omega
          have hTm := hT2.mono HBW.out
          have hbm := HB.out.trans (hb2.mono HBW.out)
          go_wp2_with fail
          go_roundw
          case rel => exact ⟨e + 1, g2, 14, V2, R2, by omega, by rw [HM.out], rfl, hTm, HF2.out, hbm⟩
          case measure => simp [intOf]
    · obtain rfl : e = d := by omega
      have e0 : e - e = 0 := by omega
      rw [e0]
      clear e0
      go_wp2_with fail
      go_ret
      exact ⟨g, c, V, R, rfl, hT, hF, hb⟩

theorem asAscents_q (a : Option Addr) (xs : List Int) (n cap : Nat) (w : World) (hx : Rd w a xs) (hn : n ≤ xs.length) :
    Calls Try.prog 46 #[.slice a n cap] w fun e w' => e = .returned (.int .i64 (ascTo xs n : Nat)) ∧ ∃ m, w' = w.drewN m := by
  have hlen := hx.len
  have HA : Hid (∀ k, ascTo xs k ≤ k - 1) := ascTo_le xs
  go_enter Try.func46, Try.ntmps46
  go_wp2_with fail
  go_loopw [3, 4] (fun s i wr => ∃ k : Nat, 1 ≤ k ∧ k ≤ max 1 n ∧ i = .int .i64 k ∧ s = .int .i64 (ascTo xs k : Nat) ∧ ∃ m, wr = w.drewN m) (fun _ i _ => n + 1 - (intOf i).toNat)
  case atStart => exact ⟨1, by omega, by omega, rfl, rfl, 0, rfl⟩
  case round =>
    obtain ⟨k, hk1, hk, rfl, rfl, m0, rfl⟩ := hrel
    by_cases hlt : k < n
    · obtain ⟨b, off, rfl, hbl, hc⟩ := hx.cell k (by omega)
      obtain ⟨b', off', e', hbl', hc'⟩ := hx.cell (k-1) (by omega)
      simp only [Option.some.injEq, Addr.mk.injEq, and_true] at e'
      obtain ⟨rfl, rfl⟩ := e'
      have hak := HA.out k
      have hcast : IntKind.i64.wrap ((k : Int) - 1) = ((k - 1 : Nat) : Int) := by rw [i64_wrap, IntWalk.wrap64_in _ ⟨by omega, by omega⟩]; omega
      cases hr : riseB xs k
      · have H1 := Lib.hid (ascTo_no hr)
        have hge : ¬ nth xs (k-1) < nth xs k := by
          intro h; rw [riseB_iff.2 ⟨by omega, h⟩] at hr; cases hr
        clear hr
        go_wp2_with fail
        go_quiet (fail)
        go_wp2_with fail
        go_roundw
        case rel => exact ⟨k + 1, by omega, by omega, by go_num, by rw [H1.out], _, rfl⟩
        case measure => simp [intOf]; omega
      · have H1 := Lib.hid (ascTo_yes hr)
        have hge : nth xs (k-1) < nth xs k := (riseB_iff.1 hr).2
        clear hr
        go_wp2_with fail
        go_quiet (fail)
        go_wp2_with fail
        go_roundw
        case rel => exact ⟨k + 1, by omega, by omega, by go_num, by rw [H1.out]; go_num, _, rfl⟩
        case measure => simp [intOf]; omega
    · have HE : Hid (ascTo xs k = ascTo xs n) := by
        by_cases h0 : n = 0
        · obtain rfl : k = 1 := by omega
          rw [Hid, h0]; rfl
        · obtain rfl : k = n := by omega
          rfl
      go_wp2_with fail
      go_ret
      exact ⟨ret_int (by rw [HE.out]), m0, rfl⟩
theorem asAscents_any (a : Option Addr) (xs : List Int) (n cap : Nat) (w : World) (hx : Rd w a xs) (hn : n ≤ xs.length) :
    Calls Try.prog 46 #[.slice a n cap] w fun e w' => e = .returned (.int .i64 (ascTo xs n : Nat)) ∧ Below w.heap.size w w' :=
  (asAscents_q a xs n cap w hx hn).mono (fun e w' ⟨h1, m, h2⟩ => ⟨h1, by rw [h2]; exact Joins.below_draws _ _ _⟩)

/-- one number more at the end of a row that is owned -/
theorem push_at {ops : Array Oper} {rest : List Oper} {o : Oper} {a : Act} {Q : Exit → Act → World → Prop} (hgd : o.guard = none) (s x : Operand)
    (ho : o.op = .call { callee := .builtin .append, args := #[s, x], argTypes := #[25, 25] }) {wr : World} {B : Nat} {v : Value} {ys : List Int} {z : Int}
    (hs : a.eval s = v) (hown : OwnI wr B v ys) (hx : a.eval x = .slice (some ⟨wr.heap.size, 0, none⟩) 1 1) (h63 : ys.length ≤ 1048576) (hB : B ≤ wr.heap.size)
    (h : ∀ v' w', OwnI w' B v' (ys ++ [z]) → wr.grownBy w' v.ownBlock → (v'.ownBlock = v.ownBlock ∨ v'.ownBlock = some (wr.heap.size + 1)) → wpList Try.prog ops Q rest (a.put o.dst v') w') :
    wpList Try.prog ops Q (o :: rest) a (wr.alloc (.cells #[.int .i64 z] 3)) := by
  obtain ⟨i0, hi, hz0, hz1, hz2⟩ := info_parts infoInt
  refine wpList_append_own_at _ hgd s x 25 ho B 3 i0 (.int .i64 0) 1 8 Try.underlying25 hi hz0 hz1 hz2 rfl (by decide) v ys.length (ys.map (Value.int .i64)) hs (hown.alloc _) ⟨wr.heap.size, 0, none⟩ 1 1 [.int .i64 z] hx rfl (cell_one_new _ _ _) (by intro u hu; simp at hu; subst hu; rfl) (by unfold maxLen; omega) (by omega) (by simp; omega) ?_
  intro v' w' ho2 hg _ hat
  refine h v' w' ?_ (grown_alloc_set hg) (by simpa using hat)
  unfold OwnI
  rw [List.length_append, List.map_append]
  exact ho2
/-- the same at a step of a region that draws its order; the new number lies somewhere -/
theorem step_push {ops : Array Oper} {o : Oper} {a : Act} {K : Act → World → Prop} {Q : Exit → Act → World → Prop} {E : Prop} (hgd : o.guard = none) (s x : Operand)
    (ho : o.op = .call { callee := .builtin .append, args := #[s, x], argTypes := #[25, 25] }) {W : World} {B g n : Nat} {v : Value} {ys : List Int} {z : Int}
    (hs : a.eval s = v) (hx : a.eval x = .slice (some ⟨g, 0, none⟩) 1 1) (hown : OwnI W B v ys) (hn : ys.length = n) (hz : W.cell? ⟨g, 0, none⟩ = some (.int .i64 z)) (h63 : n ≤ 1048576) (hB : B ≤ W.heap.size)
    (h : ∀ g' cap w', OwnI w' B (.slice (some ⟨g', 0, none⟩) (n + 1) cap) (ys ++ [z]) → W.grownBy w' v.ownBlock → (v.ownBlock = some g' ∨ g' = W.heap.size) → K (a.put o.dst (.slice (some ⟨g', 0, none⟩) (n + 1) cap)) w') :
    if Region.wanted o (yielded ops a.tmps) = true then Oper.wp Try.prog o a W K Q else E := by
  subst hn
  obtain ⟨i0, hi, hz0, hz1, hz2⟩ := info_parts infoInt
  refine step_append_lies W hgd s x 25 ho B 3 i0 (.int .i64 0) 1 8 Try.underlying25 hi hz0 hz1 hz2 rfl (by decide) v ys.length (ys.map (Value.int .i64)) hs hown ⟨g, 0, none⟩ 1 1 [.int .i64 z] hx rfl ?_ (by intro u hu; simp at hu; subst hu; rfl) (by omega) (by unfold maxLen; omega) (by omega) hB W.heap.size rfl ?_
  · intro j u hj
    obtain ⟨hlt, e⟩ := List.getElem?_eq_some_iff.1 hj
    have h0 : j = 0 := by simpa using hlt
    subst h0
    simp at e
    subst e
    rw [Addr.add_lit]; simpa using hz
  · intro g' cap w' ho2 hg hat _
    refine h g' cap w' ?_ hg hat
    unfold OwnI
    rw [List.length_append, List.map_append]
    exact ho2
theorem news_after {w w3 : World} {x : Int} {m : Nat} (h : Below ((w.drewN m).alloc (.cells #[.int .i64 x] 3)).heap.size ((w.drewN m).alloc (.cells #[.int .i64 x] 3)) w3) : w3.cell? ⟨w.heap.size, 0, none⟩ = some (.int .i64 x) :=
  (h.cell (p := ⟨w.heap.size, 0, none⟩) (show w.heap.size < ((w.drewN m).alloc _).heap.size by rw [World.size_alloc]; exact Nat.lt_succ_of_le (Joins.below_draws w.heap.size w m).size)).trans ((show ∀ W : World, (W.alloc (.cells #[.int .i64 x] 3)).cell? ⟨W.heap.size, 0, none⟩ = some (.int .i64 x) from fun W => by simp) (w.drewN m))
theorem below_after {w w3 : World} {m : Nat} {o : Obj} (h : Below ((w.drewN m).alloc o).heap.size ((w.drewN m).alloc o) w3) : Below w.heap.size w w3 :=
  Below.trans ((Joins.below_draws w.heap.size w m).alloc (Joins.below_draws w.heap.size w m).size _) (h.mono (Nat.le_trans (Joins.below_draws w.heap.size w m).size (by simp)))
theorem below_drew {w w3 : World} {m : Nat} (h : Below (w.drewN m).heap.size (w.drewN m) w3) : Below w.heap.size w w3 :=
  Below.trans (Joins.below_draws w.heap.size w m) (h.mono (Joins.below_draws w.heap.size w m).size)
/-- two values that own no block together -/
def SepV (v u : Value) : Prop := ∀ c, v.ownBlock = some c → u.ownBlock ≠ some c
theorem SepV.symm {v u : Value} (h : SepV v u) : SepV u v := fun c e e2 => h c e2 e
/-- the first of two rows has grown -/
theorem SepV.grow {w : World} {B : Nat} {v v' u : Value} {ys : List Int} {m : Nat} (h : SepV v u) (hu : OwnI w B u ys) (hm : w.heap.size ≤ m) (hat : v'.ownBlock = v.ownBlock ∨ v'.ownBlock = some m) : SepV v' u := by
  intro c e e2
  rcases hat with h1 | h1
  · exact h c (h1 ▸ e) e2
  · rw [h1] at e
    have := (hu.lt c e2).2
    simp only [Option.some.injEq] at e
    omega

set_option maxRecDepth 100000 in
theorem asCount_any (a : Option Addr) (ys : List Int) (n cap : Nat) (w : World) (hx : Rd w a ys) (h1 : 1 ≤ ys.length) (h2 : ys.length ≤ n) (h3 : n ≤ 12) (h4 : 0 ≤ nth ys (ys.length - 1)) (h5 : nth ys (ys.length - 1) ≤ 12) :
    Calls Try.prog 33 #[.slice a ys.length cap, .int .i64 (n : Int)] w fun e w' => e = .returned (.int .i64 ((cntF ys n : Nat) : Int)) ∧ Below w.heap.size w w' := by
  have hal := ascTo_le ys ys.length
  obtain ⟨lst, hlst⟩ := Int.eq_ofNat_of_zero_le h4
  have HC : Hid (cntF ys n = tW (n - ys.length) (ascTo ys ys.length) lst) := by rw [Hid, cntF, hlst]; rfl
  obtain ⟨b, off, rfl, hbl, hc⟩ := hx.cell (ys.length - 1) (by omega)
  have hcast1 : IntKind.i64.wrap ((n : Int) - (ys.length : Int)) = ((n - ys.length : Nat) : Int) := by rw [i64_wrap, IntWalk.wrap64_in _ ⟨by omega, by omega⟩]; omega
  have hcast2 : IntKind.i64.wrap ((ys.length : Int) - 1) = ((ys.length - 1 : Nat) : Int) := by rw [i64_wrap, IntWalk.wrap64_in _ ⟨by omega, by omega⟩]; omega
  obtain ⟨dd, hdd⟩ : ∃ dd, dd = n - ys.length := ⟨_, rfl⟩
  obtain ⟨A, hA⟩ : ∃ A, A = ascTo ys ys.length := ⟨_, rfl⟩
  rw [← hdd] at HC hcast1
  rw [← hA] at HC hal
  have hdd12 : dd ≤ 12 := by omega
  have hA13 : A < 14 := by omega
  have HA := Lib.hid hA
  rw [hlst] at hc h5
  have hl13 : lst < 14 := by omega
  have hlk : ys.length - 1 < ys.length := by omega
  have hA14 : (A : Int) < 14 := by omega
  have hl14 : (lst : Int) < 14 := by omega
  clear hlst hdd hA h4
  go_enter Try.func33, Try.ntmps33
  go_wp2_with fail
  go_region_law (first | (have _g := HT3; go_simp; go_at_call 46; refine (asAscents_any _ ys _ _ _ (by first | exact hx.below hb3 | exact hx.below (hb3.trans (Joins.below_draws _ _ _))) (Nat.le_refl _)).mono ?_; rw [← HA.out]; rintro e w4 ⟨rfl, hb4⟩; have z4 : Below w3.heap.size w3 w4 := (by first | exact below_drew hb4 | exact hb4); have T4 := HT3.out.below z4 (Nat.le_refl _); have ⟨bb, oo, cc, k1, k2⟩ := T4.look HF3.out hA13 hl13; have ht4 := hb3.trans (z4.mono hb3.size); have hc4 := (ht4.cell (p := ⟨b, off + (ys.length - 1), none⟩) hbl).trans hc) | (go_simp; go_at_call 45; refine (asWays_any dd _ hdd12).mono ?_; rintro e w3 ⟨g3, c3, V3, R3, rfl, hT3, hF3, hb3'⟩; have hb3 : Below w.heap.size w w3 := (by first | exact below_drew hb3' | exact hb3'); have HT3 := Lib.hid hT3; have HF3 := Lib.hid hF3; have hc3 := (hb3.cell (p := ⟨b, off + (ys.length - 1), none⟩) hbl).trans hc; clear hT3 hF3 hb3'))
  all_goals
    go_wp2_with fail
    go_ret
    exact ⟨ret_int (by rw [HC.out]), ht4⟩

theorem OwnI.new (w : World) (xs : List Int) (h : xs.length ≤ 1048576) : OwnI (w.alloc (.cells (xs.map (Value.int .i64)).toArray 3)) w.heap.size (.slice (some ⟨w.heap.size, 0, none⟩) xs.length xs.length) xs :=
  ⟨by simp, .inr ⟨w.heap.size, xs.length, (xs.map (Value.int .i64)).toArray, rfl, Nat.le_refl _, heap_alloc_new w _, Nat.le_refl _, by unfold maxLen; omega, by simp, by simp [List.take_of_length_le]⟩⟩

theorem wayI_first (n : Nat) : wayI (n+1) (-1) (-1) = wayI n 0 0 := by
  rw [wayI]
  show sumTo _ 1 = _
  simp [sumTo, byA]
theorem cntF_zero {n : Nat} (h1 : 1 ≤ n) (h2 : n ≤ 12) : cntF [0] n = wayI n (-1) (-1) := by
  obtain ⟨m, rfl⟩ : ∃ m, n = m + 1 := ⟨n - 1, by omega⟩
  rw [wayI_first]
  show tW (m + 1 - 1) (ascTo [0] 1) (nth [0] 0).toNat = _
  rw [show ascTo [0] 1 = 0 from rfl, show (nth [0] 0).toNat = 0 from rfl, Nat.add_sub_cancel, tW_way m 0 0 (by omega)]
  rfl
set_option maxRecDepth 100000 in
theorem asAll_any (n : Nat) (w : World) (hn : n ≤ 12) :
    Calls Try.prog 29 #[.int .i64 (n : Int)] w fun e w' => e = .returned (.int .i64 ((wayI n (-1) (-1) : Nat) : Int)) ∧ Below w.heap.size w w' := by
  by_cases h0 : n = 0
  · subst h0
    go_enter Try.func29, Try.ntmps29
    go_wp2_with fail
    go_ret
    exact ⟨rfl, Below.refl _ _⟩
  · have HC := Lib.hid (cntF_zero (n := n) (by omega) hn)
    have ho : OwnI (w.alloc (.cells #[.int .i64 0] 3)) w.heap.size (.slice (some ⟨w.heap.size, 0, none⟩) 1 1) [0] := OwnI.new w [0] (by simp)
    have b1 := (Below.refl w.heap.size w).alloc (Nat.le_refl _) (.cells #[.int .i64 0] 3)
    go_enter Try.func29, Try.ntmps29
    go_wp2_with fail
    refine (asCount_any _ [0] n 1 _ ho.rd (by simp) (by simp; omega) hn (by simp [nth]) (by simp [nth])).mono ?_
    rintro e w2 ⟨rfl, hb2⟩
    go_wp2_with fail
    go_ret
    exact ⟨ret_int (by rw [HC.out]), b1.trans (hb2.mono (by simp))⟩

theorem l1In_any (n lo hi : Int) (w : World) :
    Calls Try.prog 28 #[.int .i64 n, .int .i64 lo, .int .i64 hi] w fun e w' => e = .returned (.bool (inB n lo hi)) ∧ w = w' := by
  go_enter Try.func28, Try.ntmps28
  go_wp2
  all_goals (go_ret; exact ⟨ret_bool (by simp [inB]; try omega), rfl⟩)
theorem l1In_is {n lo hi : Int} {b : Bool} (h : inB n lo hi = b) (w : World) (m : Nat) :
    Calls Try.prog 28 #[.int .i64 n, .int .i64 lo, .int .i64 hi] (w.drewN m) fun e w' => e = .returned (.bool b) ∧ ∃ k, w' = w.drewN k :=
  Calls.quiet_of_same ((l1In_any n lo hi (w.drewN m)).mono (fun e w' hh => ⟨by rw [← h]; exact hh.1, hh.2.symm⟩))

theorem wpList_append_none {P : Program} {w : World} {ops : Array Oper} {rest : List Oper} {o : Oper} {a : Act} {Q : Exit → Act → World → Prop} (hgd : o.guard = none) (s x : Operand) (t : TypeId)
    (ho : o.op = .call { callee := .builtin .append, args := #[s, x], argTypes := #[t, t] })
    (base : Nat) (e : TypeId) (i : TypeInfo) (size : Nat) (ht : P.underlying t = some (.slice e)) (hi : P.info? e = some i)
    (v : Value) (n c : Nat) (xs : List Value) (hs : a.eval s = v) (hown : w.ownsRow base e size v n xs) (hx : a.eval x = .slice none 0 c)
    (h : wpList P ops Q rest (a.put o.dst v) w) : wpList P ops Q (o :: rest) a w := by
  refine wpList_plain hgd fun K hK => ?_
  have hrun : (Builtin.append_ #[t, t] o.type #[v, .slice none 0 c]).run P w = .ok v w := by
    rcases hown.2 with ⟨rfl, rfl⟩ | ⟨g, cap, cur, rfl, _, _, hnc, _⟩
    · simp [Builtin.append_, run_underlying ht, sizeOf, typeInfo, hi, Builtin.lenOf, Builtin.firstCells]
    · simp [Builtin.append_, run_underlying ht, sizeOf, typeInfo, hi, Builtin.lenOf, Builtin.firstCells, hnc, storeCells]
  unfold Oper.wp
  simp [execOp, ho, resolve, invoke, builtin, hs, hx, hrun, Result.andThen]
  exact hK _ _ h
theorem rd_news {w : World} {ad : Addr} {xs : List Int} (hx : Rd w (some ad) xs) : ∀ j u, (xs.map (Value.int .i64))[j]? = some u → w.cell? (ad.add j) = some u := by
  intro j u hj
  rw [List.getElem?_map, Option.map_eq_some_iff] at hj
  obtain ⟨x, hx1, rfl⟩ := hj
  obtain ⟨hlt, e⟩ := List.getElem?_eq_some_iff.1 hx1
  obtain ⟨b, off, e1, _, hc⟩ := hx.cell j hlt
  simp only [Option.some.injEq] at e1
  subst e1
  rw [Addr.add_lit, hc, nth_get xs j hlt, e]
theorem ints_one (xs : List Int) : ∀ u ∈ xs.map (Value.int .i64), u.oneCell' = true := by
  intro u hu
  obtain ⟨x, _, rfl⟩ := List.mem_map.1 hu
  rfl

theorem l1Own_any (a : Option Addr) (xs : List Int) (cap : Nat) (w : World) (hx : Rd w a xs) (hn : xs.length ≤ 1048576) :
    Calls Try.prog 34 #[.slice a xs.length cap] w fun e w' => ∃ a' cap', e = .returned (.slice a' xs.length cap') ∧ OwnI w' w.heap.size (.slice a' xs.length cap') xs ∧ Below w.heap.size w w' := by
  obtain ⟨i0, hi, hz0, hz1, hz2⟩ := info_parts infoInt
  have hown : (w.alloc (.cells #[] 3)).ownsRow w.heap.size 3 1 (.slice (some ⟨w.heap.size, 0, none⟩) 0 0) 0 [] := World.ownsRow_lit w #[] 0 (Nat.le_refl _) (by simp [maxLen]) (by simp)
  cases a with
  | none =>
    have h0 : xs = [] := by
      rcases xs with _ | ⟨x, t⟩
      · rfl
      · obtain ⟨b, off, e, _⟩ := hx.cell 0 (by simp)
        cases e
    subst h0
    go_enter Try.func34, Try.ntmps34
    go_wp2_with (at_builtin; refine wpList_append_none rfl _ _ 25 rfl w.heap.size 3 i0 1 Try.underlying25 hi _ 0 _ [] rfl hown rfl ?_)
    go_wp2_with fail
    go_ret
    exact ⟨_, _, rfl, hown, (by repeat (first | exact Below.refl _ _ | assumption | refine Below.alloc ?_ (by first | exact Nat.le_refl _ | (simp only [World.size_alloc, World.size_setCell, World.size_drew]; omega) | omega) _ | refine Below.setCell ?_ (by first | exact Nat.le_refl _ | (simp only [World.size_alloc, World.size_setCell, World.size_drew]; omega) | omega) _ | refine Below.drew ?_))⟩
  | some ad =>
    have hx1 := hx.alloc (.cells #[] 3)
    go_enter Try.func34, Try.ntmps34
    go_wp2_with (at_builtin; refine wpList_append_own _ rfl _ _ 25 rfl w.heap.size 3 i0 (.int .i64 0) 1 8 Try.underlying25 hi hz0 hz1 hz2 rfl (by decide) _ 0 [] rfl hown ad xs.length cap (xs.map (Value.int .i64)) rfl (by simp) ?c1 ?c2 ?c3 ?c4 ?c5 ?_)
    case c1 => exact rd_news hx1
    case c2 => exact ints_one xs
    case c3 => unfold maxLen; omega
    case c4 => omega
    case c5 => simp
    · intro v' w1 hown' hgrow _
      try simp only [Nat.zero_add, List.nil_append] at hown'
      have hb : Below w.heap.size w w1 := ((Below.refl _ _).alloc (Nat.le_refl _) _).grown hgrow (by simp) (fun b e => by simp [Value.ownBlock] at e; omega)
      obtain ⟨a', cap', rfl⟩ := OwnI.form (xs := xs) hown'
      have HO := Lib.hid hown'
      clear hown' hgrow hown
      go_wp2_with fail
      go_ret
      exact ⟨a', cap', rfl, HO.out, hb⟩

/-- how long a slice is, a measure -/
def sliceLen : Value → Nat
  | .slice _ n _ => n
  | _ => 0
theorem OwnI.sliceLen {w : World} {B : Nat} {v : Value} {xs : List Int} (h : OwnI w B v xs) : sliceLen v = xs.length := by
  obtain ⟨a, c, rfl⟩ := h.form
  rfl
def canB (xs : List Int) (i : Nat) : Bool := decide (nth xs i < bndTo xs i)
/-- the last of the first k places at which the number may rise -/
def lastR (xs : List Int) : Nat → Option Nat
  | 0 => none
  | k+1 => if canB xs k then some k else lastR xs k
theorem lastR_lt {xs : List Int} {i : Nat} : ∀ {k : Nat}, lastR xs k = some i → i < k
  | 0, h => by cases h
  | k+1, h => by
    rw [lastR] at h
    split at h
    · cases h; omega
    · have := lastR_lt h; omega
/-- the list with a greater number at i, and zeros behind it -/
def nxList (xs : List Int) (i : Nat) : List Int := (xs.take i ++ [nth xs i + 1]) ++ List.replicate (xs.length - (i + 1)) 0
theorem nxList_len {xs : List Int} {i : Nat} (h : i < xs.length) : (nxList xs i).length = xs.length := by simp [nxList]; omega
def nxB (xs : List Int) : Bool := ascB xs && (lastR xs xs.length).isSome
def nxL (xs : List Int) : List Int := if ascB xs then (match lastR xs xs.length with | some i => nxList xs i | none => []) else []
theorem nxL_len (xs : List Int) : (nxL xs).length ≤ 1048576 := by
  unfold nxL
  split
  · rename_i h
    have := (ascB_iff.1 h).1
    split
    · rename_i i hi
      rw [nxList_len (lastR_lt hi)]; omega
    · simp
  · simp
theorem nx_row {xs : List Int} {i : Nat} (h : i < xs.length) : ((xs.take i ++ (List.replicate xs.length (0 : Int)).drop i).set i (nth xs i + 1)) = nxList xs i := by
  have hl : (xs.take i).length = i := by simp; omega
  rw [List.set_append_right _ _ (by omega), hl, Nat.sub_self, List.drop_replicate, show xs.length - i = (xs.length - (i+1)) + 1 by omega, List.replicate_succ]
  simp [nxList]
/-- what the program holds behind k numbers -/
def NxAt (w : World) (B : Nat) (xs : List Int) (v : Value) : Option Nat → Prop
  | none => v = .slice none 0 0
  | some i => ∃ g c, v = .slice (some ⟨g, 0, none⟩) xs.length c ∧ OwnI w B (.slice (some ⟨g, 0, none⟩) xs.length c) (nxList xs i)
theorem NxAt.setBelow {w : World} {B : Nat} {xs : List Int} {v : Value} {p : Addr} (hp : p.block < B) (u : Value) : ∀ {o : Option Nat}, NxAt w B xs v o → NxAt (w.setCell p u) B xs v o
  | none, h => h
  | some _, ⟨g, c, e, ho⟩ => ⟨g, c, e, ho.setBelow hp u⟩
theorem NxAt.below {w w' : World} {B B' : Nat} {xs : List Int} {v : Value} : ∀ {o : Option Nat}, NxAt w B xs v o → Below B' w w' → w.heap.size ≤ B' → NxAt w' B xs v o
  | none, h, _, _ => h
  | some _, ⟨g, c, e, ho⟩, hb, hB => ⟨g, c, e, ho.below hb hB⟩

set_option maxRecDepth 100000 in
set_option maxHeartbeats 8000000 in
theorem sAwith_any (n r : Int) (w : World) (hn : -9223372036854775808 ≤ n ∧ n ≤ 9223372036854775807) (hr : -9223372036854775808 ≤ r ∧ r ≤ 9223372036854775807) :
    Calls Try.prog 14 #[.int .i64 n, .int .i64 r] w fun e w' => ∃ a' cap', e = .returned (.tuple #[.slice a' (awL n r).length cap', .bool (awB n r)]) ∧ OwnI w' w.heap.size (.slice a' (awL n r).length cap') (awL n r) ∧ Below w.heap.size w w' := by
  cases h : inB n 0 12
  · have HI := Lib.hid h
    have H2 : Hid (awB n r = false) := by simp [Hid, awB, h]
    have H1 : Hid (awL n r = []) := by simp [Hid, awL, H2.out]
    clear h
    go_enter Try.func14, Try.ntmps14
    go_wp2_with fail
    refine (l1In_any _ _ _ _).mono ?_
    rintro e w' ⟨rfl, rfl⟩
    rw [HI.out]
    go_wp2_with fail
    refine bodyPost_ret (v := .tuple #[.slice none 0 0, .bool false]) (by simp [results, Try.results14, go_sem]) rfl ?_
    exact ⟨none, 0, by rw [H1.out, H2.out]; rfl, by rw [H1.out]; exact OwnI.nil _ _, Below.refl _ _⟩
  · have HI := Lib.hid h
    have ⟨h0, h1⟩ := inB_iff.1 h
    obtain ⟨N, rfl⟩ := Int.eq_ofNat_of_zero_le h0
    have hN : N ≤ 12 := by omega
    have hWN := wayI_le N (-1) (-1) (by omega)
    have hWP := pow14 (s := N) (by omega)
    cases h2 : inB r 0 (((wayI N (-1) (-1) : Nat) : Int) - 1)
    · have HI2 := Lib.hid h2
      have H2 : Hid (awB (N : Int) r = false) := by simp [Hid, awB, h2]
      have H1 : Hid (awL (N : Int) r = []) := by simp [Hid, awL, H2.out]
      clear h h2
      obtain ⟨W, hW⟩ : ∃ W, W = wayI N (-1) (-1) := ⟨_, rfl⟩
      rw [← hW] at HI2 hWN
      have HW := Lib.hid hW
      clear hW
      go_enter Try.func14, Try.ntmps14
      go_wp2_with fail
      refine (l1In_any _ _ _ _).mono ?_
      rintro e w' ⟨rfl, rfl⟩
      rw [HI.out]
      go_wp2_with fail
      refine (asAll_any N _ hN).mono ?_
      rw [← HW.out]
      rintro e w2 ⟨rfl, hb2⟩
      go_wp2_with fail
      refine (l1In_any _ _ _ _).mono ?_
      rintro e w' ⟨rfl, rfl⟩
      rw [HI2.out]
      go_wp2_with fail
      refine bodyPost_ret (v := .tuple #[.slice none 0 0, .bool false]) (by simp [results, Try.results14, go_sem]) rfl ?_
      exact ⟨none, 0, by rw [H1.out, H2.out]; rfl, by rw [H1.out]; exact OwnI.nil _ _, hb2⟩
    · have ⟨h3, h4⟩ := inB_iff.1 h2
      obtain ⟨R0, rfl⟩ := Int.eq_ofNat_of_zero_le h3
      have HI2 := Lib.hid h2
      have HRW : Hid (R0 < wayI N (-1) (-1)) := by rw [Hid]; omega
      have H2 : Hid (awB (N : Int) (R0 : Int) = true) := by simp [Hid, awB, h, h2]
      have H1 : Hid (awL (N : Int) (R0 : Int) = (awS N R0 N).1) := by simp [Hid, awL, H2.out]
      have hRb : R0 ≤ 793714773254144 := by omega
      clear h h2
      obtain ⟨W, hW⟩ : ∃ W, W = wayI N (-1) (-1) := ⟨_, rfl⟩
      rw [← hW] at HI2 hWN h4
      have HW := Lib.hid hW
      clear hW
      go_enter Try.func14, Try.ntmps14
      go_wp2_with fail
      refine (l1In_any _ _ _ _).mono ?_
      rintro e w' ⟨rfl, rfl⟩
      rw [HI.out]
      go_wp2_with fail
      refine (asAll_any N _ hN).mono ?_
      rw [← HW.out]
      rintro e w2 ⟨rfl, hb2⟩
      go_wp2_with fail
      refine (l1In_any _ _ _ _).mono ?_
      rintro e w' ⟨rfl, rfl⟩
      rw [HI2.out]
      go_wp2_with fail
      go_loopw [1, 6] (fun r v wr => ∃ (k : Nat) (zs : List Int) (R : Nat), k ≤ N ∧ awS N R0 k = (zs, R) ∧ r = .int .i64 R ∧ OwnI wr w.heap.size v zs ∧ Below w.heap.size w wr) (fun _ v _ => N - sliceLen v)
      case atStart => exact ⟨0, [], R0, Nat.zero_le _, rfl, rfl, OwnI.nil _ _, hb2⟩
      case round =>
        clear hb2
        obtain ⟨k, zs, R, hk, hS, rfl, hown, hb⟩ := hrel
        obtain ⟨av, cv, rfl⟩ := hown.form
        have hl : zs.length = k := by have := awS_len N R0 k; rw [hS] at this; exact this
        have HL := Lib.hid hl
        have HSS := Lib.hid hS
        clear hS
        by_cases hlt : k < N
        · have hlt' : (zs.length : Int) < (N : Int) := by omega
          obtain ⟨p, hp12, hp1, hp2, hnext⟩ := aw_pick HRW.out hN hlt (zs := zs) (R := R) (by rw [HSS.out]) (by rw [HSS.out])
          have HN := Lib.hid hnext
          have hzN : zs.length < N := by omega
          have HOW := Lib.hid hown
          have HBB := Lib.hid hb
          have hRw : R ≤ 793714773254144 := by
            have := awS_good HRW.out (k := k) (by omega) hN
            rw [HSS.out] at this
            have h5 := clAsc_lt zs k
            have h6 := wayI_le (N - k) (clLast zs k) (clAsc zs k) (by omega)
            have h7 := pow14 (s := N - k) (by omega)
            simp only at this
            omega
          clear hnext hl hown hb
          have hcnt : ∀ x : Nat, x ≤ 12 → cntF (zs ++ [(x : Int)]) N = wyL zs N x := fun x _ => cntF_snoc hzN hN
          have HCN := Lib.hid hcnt
          clear hcnt
          go_wp2_with fail
          refine (l1Own_any av zs cv _ HOW.out.rd (by omega)).mono ?_
          rintro e w3 ⟨a3, c3, rfl, ho3, hb3⟩
          have ho3' := Lib.hid ho3
          have hs3 := hb3.size
          clear ho3
          go_wp2_with (at_builtin; refine push_at (z := 0) rfl _ _ rfl rfl ho3'.out rfl (by omega) hs3 ?_; intro v7 w7 o7 hg7 hat7)
          obtain ⟨a7, c7, rfl⟩ := o7.form
          have b7 : Below wr.heap.size wr w7 := hb3.trans (below_of_grown hg7 (fun c e => (ho3'.out.lt c e).1) hs3)
          have hl7 : (zs ++ [(0 : Int)]).length = zs.length + 1 := by rw [List.length_append]; rfl
          have HL7 := Lib.hid hl7
          have HE7 := Lib.hid (nth_last zs (0 : Int))
          have HC7 : Hid (cntF (zs ++ [(0 : Int)]) N = wyL zs N (0)) := HCN.out (0) (by omega)
          have hbs7 := b7.size
          clear hl7 hg7 hat7 hb3 hs3 ho3'
          refine (asCount_any a7 (zs ++ [(0 : Int)]) N c7 w7 o7.rd (by rw [HL7.out]; omega) (by rw [HL7.out]; omega) hN (by rw [HE7.out]; omega) (by rw [HE7.out]; omega)).mono ?_
          rw [HC7.out]
          rintro e w8 ⟨rfl, hb8⟩
          have b8 := b7.trans (hb8.mono hbs7)
          have OW8 := Lib.hid (HOW.out.below b8 (Nat.le_refl _))
          clear b7 hb8 o7 hbs7
          have b9 := HBB.out.trans (b8.mono HBB.out.size)
          clear b8
          go_wp2_with fail
          go_loopw [1, 7, 8] (fun r x y wi => ∃ j : Nat, j ≤ p ∧ x = .int .i64 j ∧ r = .int .i64 ((R - sumTo (wyL zs N) j : Nat) : Int) ∧ y = .int .i64 ((wyL zs N j : Nat) : Int) ∧ OwnI wi w.heap.size (.slice av zs.length cv) zs ∧ Below w.heap.size w wi) (fun _ x _ _ => p - (intOf x).toNat)
          case atStart => exact ⟨0, Nat.zero_le _, rfl, by simp [sumTo], rfl, OW8.out, b9⟩
          case round =>
            clear OW8 b9
            obtain ⟨j, hj, rfl, rfl, rfl, hoi, hbi⟩ := hrel
            have HOI := Lib.hid hoi
            have HBI := Lib.hid hbi
            have hwy := wyL_le (zs := zs) (n := N) (x := j) hzN hN
            have hs1 : sumTo (wyL zs N) (j+1) = sumTo (wyL zs N) j + wyL zs N j := rfl
            obtain ⟨D, hD⟩ : ∃ D, D = R - sumTo (wyL zs N) j := ⟨_, rfl⟩
            obtain ⟨C, hC⟩ : ∃ C, C = wyL zs N j := ⟨_, rfl⟩
            rw [← hC] at hwy hs1
            have hDR : D ≤ R := by omega
            clear hoi hbi
            by_cases hjl : j < p
            · have hm := sumTo_mono (f := wyL zs N) (j := j + 1) (k := p) (by omega)
              have hCD : C ≤ D := by omega
              have HDN : Hid (D - C = R - sumTo (wyL zs N) (j+1)) := by rw [Hid]; omega
              rw [← hD, ← hC]
              have hge : (C : Int) ≤ (D : Int) := by omega
              have hj12 : j + 1 ≤ 12 := by omega
              clear hm hs1 hD hC
              go_wp2_with fail
              refine (l1Own_any av zs cv _ HOI.out.rd (by omega)).mono ?_
              rintro e w3 ⟨a3, c3, rfl, ho3, hb3⟩
              have ho3' := Lib.hid ho3
              have hs3 := hb3.size
              clear ho3
              go_wp2_with (at_builtin; refine push_at (z := (j : Int) + 1) rfl _ _ rfl rfl ho3'.out rfl (by omega) hs3 ?_; intro v7 w7 o7 hg7 hat7)
              obtain ⟨a7, c7, rfl⟩ := o7.form
              have b7 : Below wr.heap.size wr w7 := hb3.trans (below_of_grown hg7 (fun c e => (ho3'.out.lt c e).1) hs3)
              have hl7 : (zs ++ [((j : Int) + 1 : Int)]).length = zs.length + 1 := by rw [List.length_append]; rfl
              have HL7 := Lib.hid hl7
              have HE7 := Lib.hid (nth_last zs ((j : Int) + 1 : Int))
              have HC7 : Hid (cntF (zs ++ [((j : Int) + 1 : Int)]) N = wyL zs N (j + 1)) := HCN.out (j + 1) (by omega)
              have hbs7 := b7.size
              clear hl7 hg7 hat7 hb3 hs3 ho3'
              refine (asCount_any a7 (zs ++ [((j : Int) + 1 : Int)]) N c7 w7 o7.rd (by rw [HL7.out]; omega) (by rw [HL7.out]; omega) hN (by rw [HE7.out]; omega) (by rw [HE7.out]; omega)).mono ?_
              rw [HC7.out]
              rintro e w8 ⟨rfl, hb8⟩
              have b8 := b7.trans (hb8.mono hbs7)
              have OW8 := Lib.hid (HOI.out.below b8 (Nat.le_refl _))
              clear b7 hb8 o7 hbs7
              have b9 := HBI.out.trans (b8.mono HBI.out.size)
              clear b8
              go_wp2_with fail
              go_roundw
              case rel => exact ⟨j + 1, by omega, by go_num, by rw [← HDN.out]; exact val_int (by omega), rfl, OW8.out, b9⟩
              case measure => simp [intOf]; omega
            · obtain rfl : j = p := by omega
              have hCD : D < C := by omega
              have HDN : Hid (awS N R0 (k+1) = (zs ++ [(j : Int)], D)) := by rw [Hid, HN.out, ← hD]
              rw [← hD, ← hC]
              have hge : ¬ (C : Int) ≤ (D : Int) := by omega
              clear hs1 hD hC
              go_wp2_with (at_builtin; refine push_at (z := (j : Int)) rfl _ _ rfl rfl HOI.out rfl (by omega) HBI.out.size ?_; intro v7 w7 o7 hg7 hat7)
              go_roundw
              case rel => exact ⟨k + 1, _, _, by omega, HDN.out, rfl, o7, HBI.out.trans (below_of_grown hg7 (fun c e => (HOI.out.lt c e).1) HBI.out.size)⟩
              case measure =>
                have h8 := o7.sliceLen
                rw [List.length_append] at h8
                simp only [List.length_cons, List.length_nil] at h8
                show N - sliceLen v7 < N - zs.length
                omega
        · obtain rfl : k = N := by omega
          have hlt' : ¬ (zs.length : Int) < (k : Int) := by omega
          have HE : Hid (awL (k : Int) (R0 : Int) = zs) := by rw [Hid, H1.out, HSS.out]
          clear hl
          go_wp2_with fail
          refine bodyPost_ret (v := .tuple #[.slice av zs.length cv, .bool true]) (by simp [results, Try.results14, go_sem]) rfl ?_
          exact ⟨av, cv, by rw [HE.out, H2.out], by rw [HE.out]; exact hown, hb⟩

theorem wayI_pos : ∀ (s : Nat) (l a : Int), -1 ≤ a → 1 ≤ wayI s l a
  | 0, _, _, _ => Nat.le_refl _
  | s+1, l, a, h => by
    rw [wayI]
    have h1 := sumTo_mono (f := fun x => wayI s (x : Int) (byA l a (x : Int))) (j := 1) (k := (a + 2).toNat) (by omega)
    have h2 := wayI_pos s ((0 : Nat) : Int) (byA l a ((0 : Nat) : Int)) (by have := byA_bd (l := l) (a := a) (x := ((0 : Nat) : Int)); omega)
    simp only [sumTo] at h1
    omega

theorem jLaid : laidOutB Try.prog = true := by kernel_rfl
theorem jRow : (62 : TypeId) < Try.prog.types.size := of_decide_eq_true (by kernel_rfl)
theorem jWide : (match Try.prog.underlying 62 with | some (.array _ _) | some (.struct _) => true | _ => false) = true := by kernel_rfl
theorem jLaw : Keyed Try.prog 62 := Keyed.of_law (deep_law_laid jLaid (m := 3) (by omega) jRow (by kernel_rfl) jWide)
theorem jZero (w : World) : (zeroValue 3).run Try.prog w = .ok (.int .i64 0) w := by kernel_rfl
def jVal (l a s : Int) : Value := .agg #[.int .i64 l, .int .i64 a, .int .i64 s]
def jLit (l a s : Int) : Lit := .string (keyBytes [.int .i64 l, .int .i64 a, .int .i64 s])
theorem jCells : Try.prog.cellsOf 62 = 3 := by kernel_rfl
theorem jType : Try.prog.keyType 62 = true := by kernel_rfl
theorem jKey {l a s : Int} (hl : (Lit.int .i64 l).wf = true) (ha : (Lit.int .i64 a).wf = true) (hs : (Lit.int .i64 s).wf = true) : keyOf Try.prog 62 (jVal l a s) = some (jLit l a s) := by
  unfold keyOf
  rw [Try.underlying62]
  simp only [jType, Bool.true_and]
  rw [if_pos (by kernel_rfl)]
  obtain ⟨N, hN⟩ : ∃ N, Try.prog.types.size + 1 = N + 3 := ⟨Try.prog.types.size - 2, by kernel_rfl⟩
  rw [hN]
  have c1 : Try.prog.cellsOf 50 = 2 := by kernel_rfl
  have c2 : Try.prog.cellsOf 3 = 1 := by kernel_rfl
  simp only [Program.keyLits, Try.underlying62, Try.underlying50, Try.underlying3, jVal, Value.cells, jCells]
  simp [c1, c2, hl, ha, hs, jLit, Program.keyLits, Try.underlying50, Try.underlying3]
  rw [if_pos (by decide)]
  simp

def jGood (D : DataW Unit) : Prop := ∀ (l a : Int) (s : Nat), -1 ≤ l → l ≤ 20 → -1 ≤ a → a ≤ 20 → s ≤ 20 → Maps.has D (jLit l a (s : Int)) = true → D.atKey (jLit l a (s : Int)) (.lit (.int .i64 0)) = .lit (.int .i64 ((wayI s l a : Nat) : Int))
theorem wf64 {n : Int} (h0 : -9223372036854775808 ≤ n) (h1 : n ≤ 9223372036854775807) : (Lit.int .i64 n).wf = true := by
  simp [Lit.wf, IntKind.min, IntKind.max, IntKind.bits, IntKind.signed]; omega
theorem jLit_inj {l a s l' a' s' : Int} (h1 : (Lit.int .i64 l).wf = true) (h2 : (Lit.int .i64 a).wf = true) (h3 : (Lit.int .i64 s).wf = true) (h4 : (Lit.int .i64 l').wf = true) (h5 : (Lit.int .i64 a').wf = true) (h6 : (Lit.int .i64 s').wf = true) (e : jLit l a s = jLit l' a' s') : l = l' ∧ a = a' ∧ s = s' := by
  have e1 := jKey h1 h2 h3
  have e2 := jKey h4 h5 h6
  rw [← e] at e2
  have := jLaw.inj e1 e2
  simpa [jVal] using this
theorem jGood_empty : jGood (.map []) := fun l a s _ _ _ _ _ h => by simp [Maps.has] at h
theorem jGood_put {D : DataW Unit} (h : jGood D) (hD : IsMap D) {l a : Int} {s : Nat} (hl : -1 ≤ l ∧ l ≤ 20) (ha : -1 ≤ a ∧ a ≤ 20) (hs : s ≤ 20) : jGood (D.put (jLit l a (s : Int)) (.lit (.int .i64 ((wayI s l a : Nat) : Int)))) := by
  intro l' a' s' h1 h2 h3 h4 h5 hh
  have w1 : (Lit.int .i64 l).wf = true := wf64 (by omega) (by omega)
  have w2 : (Lit.int .i64 a).wf = true := wf64 (by omega) (by omega)
  have w3 : (Lit.int .i64 (s : Int)).wf = true := wf64 (by omega) (by omega)
  by_cases e : jLit l' a' (s' : Int) = jLit l a (s : Int)
  · have ⟨e1, e2, e3⟩ := jLit_inj (wf64 (by omega) (by omega)) (wf64 (by omega) (by omega)) (wf64 (by omega) (by omega)) w1 w2 w3 e
    have e4 : s' = s := by omega
    subst e1 e2 e4
    exact atKey_put_same hD (jLaw.key (jKey w1 w2 w3)) _ _
  · rw [has_put_other e] at hh
    rw [atKey_put_other e]
    exact h l' a' s' h1 h2 h3 h4 h5 hh
/-- what has been counted lies in the map of block mb; the variable that holds it is p, the one that holds the function q -/
structure Memo (w : World) (p q mb N : Nat) : Prop where
  cp : w.cell? ⟨p, 0, none⟩ = some (.map (some mb))
  cq : w.cell? ⟨q, 0, none⟩ = some (.func (.func 42) #[] #[.pointer (some ⟨p, 0, none⟩), .pointer (some ⟨q, 0, none⟩)])
  pl : p < w.heap.size
  ql : q < w.heap.size
  pm : mb ≠ p
  qm : mb ≠ q
  m : ∃ D n, n ≤ N ∧ w.ownsMap Try.prog 62 (plainElem (H := Unit) Try.prog 3) mb n D ∧ jGood D
theorem Memo.grown {w w' : World} {p q mb N : Nat} {row : Option Nat} (h : Memo w p q mb N) (hg : w.grownBy w' row) (h1 : some p ≠ row) (h2 : some q ≠ row) (h3 : some mb ≠ row) : Memo w' p q mb N := by
  obtain ⟨D, n, hn, hm, hgd⟩ := h.m
  exact ⟨hg.cell h.cp h1, hg.cell h.cq h2, Nat.lt_of_lt_of_le h.pl hg.size, Nat.lt_of_lt_of_le h.ql hg.size, h.pm, h.qm, D, n, hn, hm.kept hg h3, hgd⟩
theorem Memo.below {w w' : World} {p q mb N : Nat} (h : Memo w p q mb N) (hb : Below w.heap.size w w') : Memo w' p q mb N := by
  refine h.grown (row := none) (below_grown hb (Nat.le_refl _) none) (by simp) (by simp) (by simp)
theorem Memo.more {w : World} {p q mb N N' : Nat} (h : Memo w p q mb N) (hN : N ≤ N') : Memo w p q mb N' := by
  obtain ⟨D, n, hn, hm, hgd⟩ := h.m
  exact ⟨h.cp, h.cq, h.pl, h.ql, h.pm, h.qm, D, n, by omega, hm, hgd⟩

theorem noClimb_any (w : World) :
    Calls Try.prog 31 #[] w fun e w' => e = .returned (.agg #[.int .i64 (-1), .int .i64 (-1)]) ∧ Below w.heap.size w w' := by
  go_enter Try.func31, Try.ntmps31
  go_wp2
  refine bodyPost_ret (v := .agg #[.int .i64 (-1), .int .i64 (-1)]) (by simp [results, Try.results31, go_sem]) rfl ⟨rfl, ?_⟩
  exact (by repeat (first | exact Below.refl _ _ | assumption | refine Below.alloc ?_ (by first | exact Nat.le_refl _ | (simp only [World.size_alloc, World.size_setCell, World.size_drew]; omega) | omega) _ | refine Below.setCell ?_ (by first | exact Nat.le_refl _ | (simp only [World.size_alloc, World.size_setCell, World.size_drew]; omega) | omega) _ | refine Below.drew ?_))
theorem greatest_any (l c : Int) (w : World) (h0 : -1 ≤ c) (h1 : c ≤ 1000) :
    Calls Try.prog 43 #[.agg #[.int .i64 l, .int .i64 c]] w fun e w' => e = .returned (.int .i64 (c + 1)) ∧ Below w.heap.size w w' := by
  go_enter Try.func43, Try.ntmps43
  go_wp2
  go_ret
  exact ⟨rfl, (by repeat (first | exact Below.refl _ _ | assumption | refine Below.alloc ?_ (by first | exact Nat.le_refl _ | (simp only [World.size_alloc, World.size_setCell, World.size_drew]; omega) | omega) _ | refine Below.setCell ?_ (by first | exact Nat.le_refl _ | (simp only [World.size_alloc, World.size_setCell, World.size_drew]; omega) | omega) _ | refine Below.drew ?_))⟩
theorem by_any (l c x : Int) (w : World) (h0 : -1 ≤ c) (h1 : c ≤ 1000) :
    Calls Try.prog 36 #[.agg #[.int .i64 l, .int .i64 c], .int .i64 x] w fun e w' => e = .returned (.agg #[.int .i64 x, .int .i64 (byA l c x)]) ∧ Below w.heap.size w w' := by
  by_cases h : l < x
  · have H : Hid (byA l c x = c + 1) := by simp [Hid, byA, h]
    go_enter Try.func36, Try.ntmps36
    go_wp2
    refine bodyPost_ret (v := .agg #[.int .i64 x, .int .i64 (c + 1)]) (by simp [results, Try.results36, go_sem]) rfl ⟨by rw [H.out], ?_⟩
    exact (by repeat (first | exact Below.refl _ _ | assumption | refine Below.alloc ?_ (by first | exact Nat.le_refl _ | (simp only [World.size_alloc, World.size_setCell, World.size_drew]; omega) | omega) _ | refine Below.setCell ?_ (by first | exact Nat.le_refl _ | (simp only [World.size_alloc, World.size_setCell, World.size_drew]; omega) | omega) _ | refine Below.drew ?_))
  · have H : Hid (byA l c x = c) := by simp [Hid, byA, h]
    go_enter Try.func36, Try.ntmps36
    go_wp2
    refine bodyPost_ret (v := .agg #[.int .i64 x, .int .i64 c]) (by simp [results, Try.results36, go_sem]) rfl ⟨by rw [H.out], ?_⟩
    exact (by repeat (first | exact Below.refl _ _ | assumption | refine Below.alloc ?_ (by first | exact Nat.le_refl _ | (simp only [World.size_alloc, World.size_setCell, World.size_drew]; omega) | omega) _ | refine Below.setCell ?_ (by first | exact Nat.le_refl _ | (simp only [World.size_alloc, World.size_setCell, World.size_drew]; omega) | omega) _ | refine Below.drew ?_))

theorem grown_drewN (w : World) (n : Nat) (row : Option Nat) : w.grownBy (w.drewN n) row := below_grown (Joins.below_draws w.heap.size w n) (Nat.le_refl _) row
theorem look_none {D : DataW Unit} {k : Lit} {c : Int} (h : Maps.has D k = false) (hat : D.atKey k (.lit (.int .i64 0)) = .lit (.int .i64 c)) : c = 0 := by
  rw [atKey_of_not_has h] at hat
  simpa using hat.symm
theorem look_some {D : DataW Unit} (hg : jGood D) {l a : Int} {s : Nat} (hl : -1 ≤ l ∧ l ≤ 20) (ha : -1 ≤ a ∧ a ≤ 20) (hs : s ≤ 19) (h : Maps.has D (jLit l a ((s : Int) + 1)) = true) {c : Int} (hat : D.atKey (jLit l a ((s : Int) + 1)) (.lit (.int .i64 0)) = .lit (.int .i64 c)) : c = ((wayI (s+1) l a : Nat) : Int) := by
  have e : ((s : Int) + 1) = ((s + 1 : Nat) : Int) := by omega
  rw [e] at h hat
  rw [hg l a (s+1) hl.1 hl.2 ha.1 ha.2 (by omega) h] at hat
  simpa using hat.symm
theorem sumTo_way (s : Nat) (l a : Int) {k : Nat} (hk : (k : Int) ≤ a + 2) (has : a + (s : Int) + 1 ≤ 12) : sumTo (fun x => wayI s (x : Int) (byA l a (x : Int))) k ≤ k * 14 ^ s :=
  sumTo_le (fun x _ => wayI_le s _ _ (by have := byA_bd (l := l) (a := a) (x := (x : Int)); omega))
set_option maxRecDepth 100000 in
set_option maxHeartbeats 2000000 in
theorem ways_any (p q mb : Nat) : ∀ (s : Nat) (l a : Int) (N : Nat) (w : World), -1 ≤ l → l ≤ 20 → -1 ≤ a → a + (s : Int) ≤ 12 → Memo w p q mb N → N + 15 ^ (s+1) ≤ 9000000000000000000 →
    Calls Try.prog 42 #[.agg #[.int .i64 l, .int .i64 a], .int .i64 (s : Int), .pointer (some ⟨p, 0, none⟩), .pointer (some ⟨q, 0, none⟩)] w fun e w' => e = .returned (.int .i64 ((wayI s l a : Nat) : Int)) ∧ Memo w' p q mb (N + 15 ^ (s+1)) ∧ w.grownBy w' (some mb)
  | 0, l, a, N, w, hl0, hl1, ha, has, hM, hN => by
    have M1 := hM.below ((Below.refl _ _).alloc (Nat.le_refl _) (.cells #[.int .i64 l, .int .i64 a] 50))
    go_enter Try.func42, Try.ntmps42
    go_wp2_with fail
    go_ret
    exact ⟨rfl, M1.more (by omega), World.grownBy_alloc _ _ _⟩
  | s+1, l, a, N, w, hl0, hl1, ha, has, hM, hN => by
    have HIH : Hid (∀ (l a : Int) (N : Nat) (w : World), -1 ≤ l → l ≤ 20 → -1 ≤ a → a + (s : Int) ≤ 12 → Memo w p q mb N → N + 15 ^ (s+1) ≤ 9000000000000000000 →
      Calls Try.prog 42 #[.agg #[.int .i64 l, .int .i64 a], .int .i64 (s : Int), .pointer (some ⟨p, 0, none⟩), .pointer (some ⟨q, 0, none⟩)] w fun e w' => e = .returned (.int .i64 ((wayI s l a : Nat) : Int)) ∧ Memo w' p q mb (N + 15 ^ (s+1)) ∧ w.grownBy w' (some mb)) := ways_any p q mb s
    have hs12 : s ≤ 12 := by omega
    have hE : ((s + 1 : Nat) : Int) = (s : Int) + 1 := by omega
    have hs0 : (((s : Int) + 1) == 0) = false := by simp; omega
    have M1 := hM.below ((Below.refl _ _).alloc (Nat.le_refl _) (.cells #[.int .i64 l, .int .i64 a] 50))
    have g1 : w.grownBy (w.alloc (.cells #[.int .i64 l, .int .i64 a] 50)) (some mb) := World.grownBy_alloc _ _ _
    obtain ⟨D, n, hn, hmap, hgood⟩ := M1.m
    have hcp := M1.cp
    have hkey : keyOf Try.prog 62 (jVal l a ((s : Int) + 1)) = some (jLit l a ((s : Int) + 1)) := jKey (wf64 (by omega) (by omega)) (wf64 (by omega) (by omega)) (wf64 (by omega) (by omega))
    have HG := Lib.hid hgood
    have HN : Hid (N + 15 ^ (s + 1 + 1) ≤ 9000000000000000000) := hN
    rw [hE] at has ⊢
    clear hgood hE hN
    cases hh : Maps.has D (jLit l a ((s : Int) + 1))
    · go_enter Try.func42, Try.ntmps42
      go_wp2_with (at_lookup; refine wpList_lookup_own_ok_int _ rfl _ _ 60 rfl 62 3 .i64 jLaw Try.underlying60 Try.underlying3 (jZero _) mb n D rfl hmap (jVal l a ((s : Int) + 1)) (jLit l a ((s : Int) + 1)) rfl hkey ?_; intro c hat hwc; obtain rfl := look_none hh hat)
      clear hat hwc hmap hh
      refine (greatest_any _ _ _ ha (by omega)).mono ?_
      rintro e w2 ⟨rfl, hb2⟩
      have M2 := M1.below hb2
      have X2 : Box2 w2 w.heap.size (.int .i64 l) (.int .i64 a) := (Box2.new w _ _ _).below hb2
      have g2 := grown_trans g1 (below_grown hb2 (Nat.le_refl _) (some mb))
      have hpw : p < w.heap.size := hM.pl
      have hqw : q < w.heap.size := hM.ql
      have hmw : mb < w.heap.size := by obtain ⟨D, n, _, h, _⟩ := hM.m; exact h.lt
      clear M1 g1 hb2 hcp
      go_wp2_with fail
      go_loopw [7, 25] (fun v i wr => ∃ k : Nat, (k : Int) ≤ a + 2 ∧ i = .int .i64 k ∧ v = .int .i64 ((sumTo (fun x => wayI s (x : Int) (byA l a (x : Int))) k : Nat) : Int) ∧ Memo wr p q mb (N + k * 15 ^ (s+1)) ∧ Box2 wr w.heap.size (.int .i64 l) (.int .i64 a) ∧ w.grownBy wr (some mb)) (fun _ i _ => (a + 2 - intOf i).toNat)
      case atStart => exact ⟨0, by omega, rfl, rfl, M2.more (by omega), X2, g2⟩
      case round =>
        clear M2 X2 g2
        obtain ⟨k, hk, rfl, rfl, hMr, hX, hg⟩ := hrel
        have hk14 : k ≤ 14 := by omega
        have HS1 := sumTo_way s l a hk (by omega)
        have HP14 := pow14 (s := s) (by omega)
        have hsl : sumTo (fun x => wayI s (x : Int) (byA l a (x : Int))) k ≤ 11112006825558016 := Nat.le_trans HS1 (Nat.le_trans (Nat.mul_le_mul hk14 HP14) (by decide))
        clear HS1 HP14
        have HSN : Hid (sumTo (fun x => wayI s (x : Int) (byA l a (x : Int))) (k+1) = sumTo (fun x => wayI s (x : Int) (byA l a (x : Int))) k + wayI s (k : Int) (byA l a (k : Int))) := rfl
        obtain ⟨T, hT⟩ : ∃ T, T = sumTo (fun x => wayI s (x : Int) (byA l a (x : Int))) k := ⟨_, rfl⟩
        rw [← hT] at hsl HSN ⊢
        have HTT := Lib.hid hT
        clear hT
        have ⟨zX, cX, dX⟩ := hX
        have hcq := hMr.cq
        by_cases hlt : (k : Int) < a + 1 + 1
        · have hcast : IntKind.i64.wrap (s : Int) = (s : Int) := by rw [i64_wrap, IntWalk.wrap64_in _ ⟨by omega, by omega⟩]
          have hbd := byA_bd (l := l) (a := a) (x := (k : Int))
          have HWL := wayI_le s (k : Int) (byA l a (k : Int)) (by omega)
          have HP14 := pow14 (s := s) (by omega)
          have hW : wayI s (k : Int) (byA l a (k : Int)) ≤ 793714773254144 := by omega
          have hNk : N + k * 15 ^ (s+1) + 15 ^ (s+1) ≤ 9000000000000000000 := by
            have h1 := Nat.mul_le_mul (show k + 1 ≤ 15 by omega) (Nat.le_refl (15 ^ (s+1)))
            have h2 := HN.out
            rw [Nat.pow_succ 15 (s+1)] at h2
            rw [Nat.succ_mul] at h1
            omega
          have HNK := Lib.hid hNk
          have HK1 : Hid (N + k * 15 ^ (s+1) + 15 ^ (s+1) = N + (k + 1) * 15 ^ (s+1)) := by rw [Hid, Nat.succ_mul]; omega
          obtain ⟨V, hV⟩ : ∃ V, V = wayI s (k : Int) (byA l a (k : Int)) := ⟨_, rfl⟩
          have HV := Lib.hid hV
          rw [← hV] at HSN hW
          have hsum : IntKind.i64.wrap ((T : Int) + (V : Int)) = ((T + V : Nat) : Int) := by rw [i64_wrap, IntWalk.wrap64_in _ ⟨by omega, by omega⟩]; omega
          have hb0 : -1 ≤ byA l a (k : Int) := by omega
          have hb1 : byA l a (k : Int) + (s : Int) ≤ 12 := by omega
          clear hNk HWL HP14 hV hbd
          go_wp2_with fail
          go_region_law (first | (have _g := M3; go_simp; go_at_call 42; refine (HIH.out _ _ (N + k * 15 ^ (s+1)) _ (by omega) (by omega) hb0 hb1 (by first | exact M3 | exact M3.grown (grown_drewN _ _ none) (by simp) (by simp) (by simp)) HNK.out).mono ?_; rw [← HV.out]; rintro e w4 ⟨rfl, M4, g4⟩) | (go_simp; go_at_call 36; refine (by_any _ _ _ _ ha (by omega)).mono ?_; rintro e w3 ⟨rfl, hb3⟩; have ht3 : Below wr.heap.size wr w3 := (by first | exact below_drew hb3 | exact hb3 | exact Below.trans (Below.refl _ wr).drew (hb3.mono (Nat.le_refl _))); have M3 := hMr.below ht3; have hcq3 := M3.cq))
          all_goals
            have g5 := grown_trans hg (grown_trans (below_grown ht3 (Nat.le_refl _) (some mb)) g4)
            have X4 : Box2 w4 w.heap.size (.int .i64 l) (.int .i64 a) := (hX.below ht3).kept g4 (by simp; omega)
            rw [HK1.out] at M4
            clear hcq3 M3 g4 ht3 hb3 cX dX hcq _g
            go_wp2_with fail
            go_roundw
            case rel => exact ⟨k + 1, by omega, by go_num, by rw [HSN.out]; exact val_int (by omega), M4, X4, g5⟩
            case measure => simp [intOf]; omega
        · have hka : ((k : Nat) : Int) = a + 2 := by omega
          have HW : Hid (wayI (s+1) l a = T) := by
            have e : k = (a + 2).toNat := by omega
            rw [Hid, HTT.out, wayI, e]
          have hNk : N + k * 15 ^ (s+1) + 1 ≤ N + 15 ^ (s+1+1) := by
            have h1 := Nat.mul_le_mul hk14 (Nat.le_refl (15 ^ (s+1)))
            have h3 : 1 ≤ 15 ^ (s+1) := Nat.one_le_pow _ _ (by omega)
            rw [Nat.pow_succ 15 (s+1)]
            omega
          have HNK := Lib.hid hNk
          obtain ⟨D2, n2, hn2, hmap2, hgood2⟩ := hMr.m
          have hcp2 := hMr.cp
          have HG2 := Lib.hid hgood2
          have hn2l : n2 < maxLen := by
            have := HN.out
            unfold maxLen; omega
          have hwf : (Lit.int .i64 ((T : Nat) : Int)).wf = true := wf64 (by omega) (by omega)
          have HMR := Lib.hid hMr
          clear hgood2 hka hNk hMr hcq
          go_wp2_with (at_mapUpdate; refine wpList_mapUpdate_own _ rfl _ _ _ 60 rfl 62 3 jLaw Try.underlying60 _ mb n2 D2 rfl hmap2 hn2l (jVal l a ((s : Int) + 1)) (.int .i64 ((T : Nat) : Int)) (jLit l a ((s : Int) + 1)) rfl rfl hkey (.lit (.int .i64 ((T : Nat) : Int))) [] (plainElem_int Try.underlying3 hwf) ?_; intro w5 hown5 hgrow5)
          have M5 : Memo w5 p q mb (N + 15 ^ (s+1+1)) := by
            have h := HMR.out
            refine ⟨hgrow5.cell h.cp (by have := h.pm; simp; omega), hgrow5.cell h.cq (by have := h.qm; simp; omega), Nat.lt_of_lt_of_le h.pl hgrow5.size, Nat.lt_of_lt_of_le h.ql hgrow5.size, h.pm, h.qm, _, _, ?_, hown5, ?_⟩
            · have := HNK.out; omega
            · have e : ((s : Int) + 1) = ((s + 1 : Nat) : Int) := by omega
              rw [e, ← HW.out]
              exact jGood_put HG2.out hmap2.isMap ⟨hl0, hl1⟩ ⟨ha, by omega⟩ (by omega)
          have g6 := grown_trans hg hgrow5
          go_ret
          exact ⟨ret_int (by rw [HW.out]), M5, g6⟩
    · go_enter Try.func42, Try.ntmps42
      go_wp2_with (at_lookup; refine wpList_lookup_own_ok_int _ rfl _ _ 60 rfl 62 3 .i64 jLaw Try.underlying60 Try.underlying3 (jZero _) mb n D rfl hmap (jVal l a ((s : Int) + 1)) (jLit l a ((s : Int) + 1)) rfl hkey ?_; intro c hat hwc; obtain rfl := look_some HG.out ⟨hl0, hl1⟩ ⟨ha, by omega⟩ (by omega) hh hat)
      go_ret
      exact ⟨rfl, M1.more (Nat.le_add_right _ _), g1⟩

def wayV (p q : Nat) : Value := .func (.func 42) #[] #[.pointer (some ⟨p, 0, none⟩), .pointer (some ⟨q, 0, none⟩)]
theorem counter_any (w : World) :
    Calls Try.prog 30 #[] w fun e w' => ∃ p q mb, e = .returned (wayV p q) ∧ Memo w' p q mb 0 ∧ (w.heap.size ≤ p ∧ w.heap.size ≤ q ∧ w.heap.size ≤ mb) ∧ Below w.heap.size w w' := by
  have hmm : ∀ (t : TypeId) (w : World), (Instr.makeMap t none).run Try.prog w = .ok (.map (some w.heap.size)) (w.alloc (.map #[] 0)) := fun t w => run_makeMap (P := Try.prog) t w
  have hsf : ∀ (W : World) (p : Addr) (f : Fn) (ls : Array Value) (cs : Array Value), (store p (.func f ls cs)).run Try.prog W = stored Try.prog W p (.func f ls cs) .plain := fun W p f ls cs => run_store _ _ _ _ _ rfl
  have hsm : ∀ (W : World) (p : Addr) (m : Option Nat), (store p (.map m)).run Try.prog W = stored Try.prog W p (.map m) .plain := fun W p m => run_store _ _ _ _ _ rfl
  have h0 := World.ownsMap_made w Try.prog 62 (plainElem (H := Unit) Try.prog 3)
  go_enter Try.func30, Try.ntmps30
  go_wp2_with fail
  have c1 : ∀ (W : World) (x : Value) (t : TypeId), (W.alloc (.cells #[x] t)).cell? ⟨W.heap.size, 0, none⟩ = some x := fun W x t => by simp
  have c2 := c1 (w.alloc (.map #[] 0)) (.map (some w.heap.size)) 60
  have c3 := fun x t => c1 ((w.alloc (.map #[] 0)).alloc (.cells #[.map (some w.heap.size)] 60)) x t
  simp only [World.size_alloc] at c2 c3
  go_ret
  refine ⟨w.heap.size + 1, w.heap.size + 1 + 1, w.heap.size, rfl, ⟨?_, c3 _ _, by simp only [World.size_alloc]; omega, by simp only [World.size_alloc]; omega, by omega, by omega, _, 0, Nat.le_refl _, (h0.alloc _).alloc _, jGood_empty⟩, by omega, ?_⟩
  · exact (((Below.refl _ _).alloc (Nat.le_refl _) _).cell (p := ⟨w.heap.size + 1, 0, none⟩) (by simp only [World.size_alloc]; omega)).trans c2
  exact (((Below.refl _ _).alloc (Nat.le_refl _) _).alloc (by simp) _).alloc (by simp; omega) _

theorem iIsAscent_any (a : Option Addr) (xs : List Int) (cap : Nat) (w : World) (hx : Rd w a xs) :
    Calls Try.prog 35 #[.slice a xs.length cap] w fun e w' => e = .returned (.bool (ascB xs)) ∧ Below w.heap.size w w' := by
  have hlen := hx.len
  by_cases hl : xs.length ≤ 12
  · go_enter Try.func35, Try.ntmps35
    go_wp2_with fail
    refine (noClimb_any _).mono ?_
    rintro e w1 ⟨rfl, hb1⟩
    have hz1 := hb1.size
    have V1 : Var2 (w1.alloc (.cells #[.int .i64 (-1), .int .i64 (-1)] 50)) w1.heap.size (.int .i64 (-1)) (.int .i64 (-1)) := Var2.new w1 _ _ _
    have b2 : Below w.heap.size w (w1.alloc (.cells #[.int .i64 (-1), .int .i64 (-1)] 50)) := hb1.alloc hz1 _
    go_wp2_with fail
    obtain ⟨g, hg⟩ : ∃ g, g = w1.heap.size := ⟨_, rfl⟩
    rw [← hg] at V1 hz1 ⊢
    clear hg
    go_loopw [12] (fun i wr => ∃ k : Nat, k ≤ xs.length ∧ i = .int .i64 k ∧ (∀ j, j < k → ascOk xs j = true) ∧ Var2 wr g (.int .i64 (clLast xs k)) (.int .i64 (clAsc xs k)) ∧ Below w.heap.size w wr) (fun i _ => xs.length - (intOf i).toNat)
    case atStart => exact ⟨0, Nat.zero_le _, rfl, fun j hj => by omega, V1, b2⟩
    case round =>
      clear V1 b2 hb1
      obtain ⟨k, hk, rfl, hall, hV, hb⟩ := hrel
      have HA := Lib.hid hall
      have ⟨⟨zV, cV, dV⟩, fV, gV⟩ := hV
      have ⟨ca0, ca1⟩ := clAsc_lt xs k
      clear hall
      by_cases hlt : k < xs.length
      · have hxr := hx.below hb
        obtain ⟨b, off, rfl, hbl, hc⟩ := hxr.cell k hlt
        by_cases h0 : nth xs k < 0
        · have HO : Hid (ascB xs = false) := ascB_no hlt (by rw [ascOk, inB_no]; omega)
          go_wp2_with fail
          go_ret
          exact ⟨ret_bool HO.out.symm, hb⟩
        · by_cases h1 : clAsc xs k + 1 < nth xs k
          · have HO : Hid (ascB xs = false) := ascB_no hlt (by rw [ascOk, inB_no, ← clAsc_bnd]; omega)
            go_wp2_with fail
            refine (greatest_any _ _ _ ca0 (by omega)).mono ?_
            rintro e w2 ⟨rfl, hb2⟩
            go_wp2_with fail
            go_ret
            exact ⟨ret_bool HO.out.symm, hb.trans (hb2.mono hb.size)⟩
          · have HM : Hid (ascOk xs k = true) := by rw [Hid, ascOk, inB_iff, ← clAsc_bnd]; omega
            have HS : Hid (byA (clLast xs k) (clAsc xs k) (nth xs k) = clAsc xs (k+1)) := clAsc_succ (by omega)
            have HL : Hid (clLast xs (k+1) = nth xs k) := clLast_succ xs k
            go_wp2_with fail
            refine (greatest_any _ _ _ ca0 (by omega)).mono ?_
            rintro e w2 ⟨rfl, hb2⟩
            have V2 := hV.below hb2
            have ⟨⟨zV2, cV2, dV2⟩, fV2, gV2⟩ := V2
            clear cV dV fV gV
            go_wp2_with fail
            refine (by_any _ _ _ _ ca0 (by omega)).mono ?_
            rintro e w3 ⟨rfl, hb3⟩
            have V3 := V2.below hb3
            have ⟨⟨zV3, cV3, dV3⟩, fV3, gV3⟩ := V3
            clear cV2 dV2 fV2 gV2
            rw [HS.out]
            have b3 : Below w.heap.size w w3 := (hb.trans (hb2.mono hb.size)).trans (hb3.mono (Nat.le_trans hb.size hb2.size))
            go_wp2_with fail
            go_roundw
            case rel =>
              refine ⟨k + 1, by omega, by go_num, fun j hj => ?_, by rw [HL.out]; exact V3.set _ _, (b3.setCell (p := ⟨g, 0, none⟩) hz1 _).setCell (p := ⟨g, 1, none⟩) hz1 _⟩
              by_cases e : j = k
              · rw [e]; exact HM.out
              · exact HA.out j (by omega)
            case measure => simp [intOf]; omega
      · obtain rfl : k = xs.length := by omega
        have HO : Hid (ascB xs = true) := ascB_iff.2 ⟨hl, HA.out⟩
        go_wp2_with fail
        go_ret
        exact ⟨ret_bool HO.out.symm, hb⟩
  · have HO := Lib.hid (ascB_long hl)
    go_enter Try.func35, Try.ntmps35
    go_wp2_with fail
    go_ret
    exact ⟨ret_bool HO.out.symm, Below.refl _ _⟩

theorem iIsAscent_anyc (a : Option Addr) (xs : List Int) (cap : Nat) (w : World) (hx : Rd w a xs) (_ : xs.length ≤ cap) :
    Calls Try.prog 35 #[.slice a xs.length cap] w fun e w' => e = .returned (.bool (ascB xs)) ∧ Below w.heap.size w w' := iIsAscent_any a xs cap w hx

theorem Memo.lm {w : World} {p q mb N : Nat} (h : Memo w p q mb N) : mb < w.heap.size := by obtain ⟨D, n, _, h, _⟩ := h.m; exact h.lt
theorem Memo.set2 {w : World} {p q mb N g : Nat} (h : Memo w p q mb N) (h1 : p < g) (h2 : q < g) (h3 : mb < g) (u v : Value) : Memo ((w.setCell ⟨g, 0, none⟩ u).setCell ⟨g, 1, none⟩ v) p q mb N :=
  (h.grown (grown_set w ⟨g, 0, none⟩ u) (by simp; omega) (by simp; omega) (by simp; omega)).grown (grown_set _ ⟨g, 1, none⟩ v) (by simp; omega) (by simp; omega) (by simp; omega)
set_option maxRecDepth 100000 in
set_option maxHeartbeats 4000000 in
theorem iRankAsc_any (a : Option Addr) (xs : List Int) (cap : Nat) (w : World) (hx : Rd w a xs) (hcap : xs.length ≤ cap) :
    Calls Try.prog 12 #[.slice a xs.length cap] w fun e w' => e = .returned (.tuple #[.int .i64 (rkA xs), .bool (ascB xs)]) ∧ Below w.heap.size w w' := by
  have hlen := hx.len
  cases hA : ascB xs
  · have HA := Lib.hid hA
    have HR : Hid (rkA xs = 0) := by simp [Hid, rkA, hA]
    clear hA
    go_enter Try.func12, Try.ntmps12
    go_wp2_with fail
    refine (iIsAscent_any _ _ _ _ hx).mono ?_
    rw [HA.out]
    rintro e w1 ⟨rfl, hb1⟩
    go_wp2_with fail
    refine bodyPost_ret (v := .tuple #[.int .i64 0, .bool false]) (by simp [results, Try.results12, go_sem]) rfl ?_
    exact ⟨by rw [HR.out], hb1⟩
  · have HA := Lib.hid hA
    have HR : Hid (rkA xs = ((rkT xs xs.length : Nat) : Int)) := by simp [Hid, rkA, hA]
    have h12 := (ascB_iff.1 hA).1
    clear hA
    go_enter Try.func12, Try.ntmps12
    go_wp2_with fail
    refine (iIsAscent_any _ _ _ _ hx).mono ?_
    rw [HA.out]
    rintro e w1 ⟨rfl, hb1⟩
    go_wp2_with fail
    refine (noClimb_any _).mono ?_
    rintro e w2 ⟨rfl, hb2⟩
    have b2 := hb1.trans (hb2.mono hb1.size)
    clear hb1 hb2
    go_wp2_with fail
    refine (counter_any _).mono ?_
    rintro e w3 ⟨p, q, mb, rfl, hMm, ⟨hp, hq, hmb⟩, hb3⟩
    have hs2 := b2.size
    have b3 := b2.trans (hb3.mono b2.size)
    have hs3 := b3.size
    have hmw : w.heap.size ≤ mb := by omega
    have hpl := hMm.pl
    have hql := hMm.ql
    have hml := hMm.lm
    have V1 : Var2 (w3.alloc (.cells #[.int .i64 (-1), .int .i64 (-1)] 50)) w3.heap.size (.int .i64 (-1)) (.int .i64 (-1)) := Var2.new w3 _ _ _
    have b4 : Below w.heap.size w (w3.alloc (.cells #[.int .i64 (-1), .int .i64 (-1)] 50)) := b3.alloc hs3 _
    have M4 : Memo (w3.alloc (.cells #[.int .i64 (-1), .int .i64 (-1)] 50)) p q mb 0 := hMm.below ((Below.refl _ _).alloc (Nat.le_refl _) _)
    clear hMm hb3 b2 hs2 hp hq hmb
    unfold wayV
    go_wp2_with fail
    obtain ⟨g, hg⟩ : ∃ g, g = w3.heap.size := ⟨_, rfl⟩
    rw [← hg] at V1 hs3 hpl hql hml ⊢
    clear hg
    go_loopw [4, 17] (fun s i wr => ∃ k : Nat, k ≤ xs.length ∧ i = .int .i64 k ∧ s = .int .i64 ((rkT xs k : Nat) : Int) ∧ Memo wr p q mb (k * 12 * 1946195068359375) ∧ Var2 wr g (.int .i64 (clLast xs k)) (.int .i64 (clAsc xs k)) ∧ Below w.heap.size w wr) (fun _ i _ => xs.length - (intOf i).toNat)
    case atStart => exact ⟨0, Nat.zero_le _, rfl, rfl, M4.more (Nat.zero_le _), V1, b4⟩
    case round =>
      clear V1 b4 M4 b3
      obtain ⟨k, hk, rfl, rfl, hM, hV, hb⟩ := hrel
      have HB := Lib.hid hb
      have HM := Lib.hid hM
      have HVV := Lib.hid hV
      have hbs := hb.size
      clear hM hV
      by_cases hlt : k < xs.length
      · have hxr := hx.below hb
        obtain ⟨b, off, rfl, hbl, hc⟩ := hxr.cell k hlt
        have ⟨x0, x1⟩ := ascB_small HA.out hlt
        have ⟨ca0, ca1⟩ := clAsc_lt xs k
        have HS : Hid (byA (clLast xs k) (clAsc xs k) (nth xs k) = clAsc xs (k+1)) := clAsc_succ (by omega)
        have HL : Hid (clLast xs (k+1) = nth xs k) := clLast_succ xs k
        obtain ⟨V, hV⟩ := Int.eq_ofNat_of_zero_le x0
        rw [hV] at hc HS HL
        have hV11 : V ≤ 11 := by omega
        have HT1 : Hid (rkT xs (k+1) = rkT xs k + rkR xs k V) := by rw [Hid, rkT, sumTo, hV]; rfl
        have hTk := rkT_le HA.out hk
        obtain ⟨T, hT⟩ : ∃ T, T = rkT xs k := ⟨_, rfl⟩
        rw [← hT] at hTk HT1 ⊢
        clear hV x0 x1 hT hb hxr
        go_wp2_with fail
        go_loopw [4, 23] (fun s i wi => ∃ x : Nat, x ≤ V ∧ i = .int .i64 x ∧ s = .int .i64 ((T + rkR xs k x : Nat) : Int) ∧ Memo wi p q mb ((k * 12 + x) * 1946195068359375) ∧ Var2 wi g (.int .i64 (clLast xs k)) (.int .i64 (clAsc xs k)) ∧ Below w.heap.size w wi) (fun _ i _ => V - (intOf i).toNat)
        case atStart => exact ⟨0, Nat.zero_le _, rfl, rfl, HM.out, HVV.out, HB.out⟩
        case round =>
          clear HM HVV HB
          obtain ⟨x, hxV, rfl, rfl, hMi, hVi, hbi⟩ := hrel
          have hRx := rkR_le hlt h12 (k := x) (by omega)
          have HR1 : Hid (rkR xs k (x+1) = rkR xs k x + wyL (xs.take k) xs.length x) := rfl
          obtain ⟨R, hR⟩ : ∃ R, R = rkR xs k x := ⟨_, rfl⟩
          rw [← hR] at hRx HR1 ⊢
          have HRR := Lib.hid hR
          have ⟨⟨zV, cV, dV⟩, fV, gV⟩ := hVi
          clear hR
          by_cases hxl : x < V
          · have j1 : (x : Int) < (V : Int) := by omega
            have hwy := wyL_le (zs := xs.take k) (n := xs.length) (x := x) (by simp; omega) h12
            rw [wyL_take hk] at hwy HR1
            have hbd := byA_bd (l := clLast xs k) (a := clAsc xs k) (x := (x : Int))
            obtain ⟨s, hs⟩ : ∃ s, s = xs.length - k - 1 := ⟨_, rfl⟩
            rw [← hs] at hwy HR1
            have hsI : (xs.length : Int) - (k : Int) - 1 = (s : Int) := by omega
            have HSI := Lib.hid hsI
            have h15 := pow15 (s := s + 1) (by omega)
            have HN1 : Hid ((k * 12 + x) * 1946195068359375 + 15 ^ (s+1) ≤ (k * 12 + (x + 1)) * 1946195068359375) := by rw [Hid]; omega
            have HN2 : Hid ((k * 12 + x) * 1946195068359375 + 15 ^ (s+1) ≤ 9000000000000000000) := by rw [Hid]; omega
            have hb0 : -1 ≤ byA (clLast xs k) (clAsc xs k) (x : Int) := by omega
            have hb1 : byA (clLast xs k) (clAsc xs k) (x : Int) + (s : Int) ≤ 12 := by omega
            have hx20 : (x : Int) ≤ 20 := by omega
            clear hs hsI h15 hbd
            go_wp2_with fail
            refine (by_any _ _ _ _ ca0 (by omega)).mono ?_
            rintro e w5 ⟨rfl, hb5⟩
            have V5 := hVi.below hb5
            have M5 := hMi.below hb5
            have b5 := hbi.trans (hb5.mono hbi.size)
            clear cV dV fV gV hMi hVi
            go_wp2_with fail
            rw [HSI.out]
            obtain ⟨A, hA⟩ : ∃ A, A = byA (clLast xs k) (clAsc xs k) (x : Int) := ⟨_, rfl⟩
            rw [← hA] at hb0 hb1 hwy HR1 ⊢
            clear hA
            refine (ways_any p q mb s (x : Int) A _ _ (by omega) hx20 hb0 hb1 M5 HN2.out).mono ?_
            obtain ⟨Y, hY⟩ : ∃ Y, Y = wayI s (x : Int) A := ⟨_, rfl⟩
            rw [← hY] at hwy HR1 ⊢
            clear hY
            rintro e w6 ⟨rfl, M6, g6⟩
            have V6 := V5.kept g6 (by simp; omega)
            have b6 := b5.trans (grown_below g6 w.heap.size hmw b5.size)
            have M6' := Lib.hid (M6.more HN1.out)
            clear M6 M5 V5 g6 b5 hb5 hbi hb0 hb1
            go_wp2_with fail
            go_roundw
            case rel => exact ⟨x + 1, by omega, by go_num, by rw [HR1.out]; exact val_int (by omega), M6'.out, V6, b6⟩
            case measure => simp [intOf]; omega
          · obtain rfl : x = V := by omega
            have HTN : Hid (T + R = rkT xs (k+1)) := by rw [Hid, HT1.out, HRR.out]
            go_wp2_with fail
            refine (by_any _ _ _ _ ca0 (by omega)).mono ?_
            rw [HS.out]
            rintro e w5 ⟨rfl, hb5⟩
            have V5 := hVi.below hb5
            have M5 := Lib.hid (hMi.below hb5)
            have b5 := hbi.trans (hb5.mono hbi.size)
            have ⟨⟨zV5, cV5, dV5⟩, fV5, gV5⟩ := V5
            clear cV dV fV gV hMi hVi
            go_wp2_with fail
            go_roundw
            case rel => exact ⟨k + 1, by omega, by go_num, by rw [← HTN.out]; exact val_int (by omega), (M5.out.set2 hpl hql hml _ _).more (by omega), by rw [HL.out]; exact V5.set _ _, (b5.setCell (p := ⟨g, 0, none⟩) hs3 _).setCell (p := ⟨g, 1, none⟩) hs3 _⟩
            case measure => simp [intOf]; omega
      · obtain rfl : k = xs.length := by omega
        have hTk := rkT_le HA.out (Nat.le_refl xs.length)
        go_wp2_with fail
        refine bodyPost_ret (v := .tuple #[.int .i64 ((rkT xs xs.length : Nat) : Int), .bool true]) (by simp [results, Try.results12, go_sem]) rfl ?_
        exact ⟨by rw [HR.out], hb⟩

def caB (n : Int) : Bool := inB n 0 12
def caN (n : Int) : Int := if caB n then ((wayI n.toNat (-1) (-1) : Nat) : Int) else 0
set_option maxRecDepth 100000 in
theorem iCountAsc_any (n : Int) (w : World) (hn : -9223372036854775808 ≤ n ∧ n ≤ 9223372036854775807) :
    Calls Try.prog 9 #[.int .i64 n] w fun e w' => e = .returned (.tuple #[.int .i64 (caN n), .bool (caB n)]) ∧ Below w.heap.size w w' := by
  by_cases h0 : n < 0
  · have H2 : Hid (caB n = false) := inB_no.2 (by omega)
    have H1 : Hid (caN n = 0) := by simp [Hid, caN, H2.out]
    go_enter Try.func9, Try.ntmps9
    go_wp2_with fail
    refine bodyPost_ret (v := .tuple #[.int .i64 0, .bool false]) (by simp [results, Try.results9, go_sem]) rfl ?_
    exact ⟨by rw [H1.out, H2.out], Below.refl _ _⟩
  · by_cases h1 : 12 < n
    · have H2 : Hid (caB n = false) := inB_no.2 (by omega)
      have H1 : Hid (caN n = 0) := by simp [Hid, caN, H2.out]
      go_enter Try.func9, Try.ntmps9
      go_wp2_with fail
      refine bodyPost_ret (v := .tuple #[.int .i64 0, .bool false]) (by simp [results, Try.results9, go_sem]) rfl ?_
      exact ⟨by rw [H1.out, H2.out], Below.refl _ _⟩
    · obtain ⟨M, rfl⟩ := Int.eq_ofNat_of_zero_le (by omega : 0 ≤ n)
      have hM : M ≤ 12 := by omega
      have H2 : Hid (caB (M : Int) = true) := inB_iff.2 (by omega)
      have H1 : Hid (caN (M : Int) = ((wayI M (-1) (-1) : Nat) : Int)) := by simp [Hid, caN, H2.out]
      have h15 := pow15 (s := M + 1) (by omega)
      have H15 : Hid (0 + 15 ^ (M+1) ≤ 9000000000000000000) := by rw [Hid]; omega
      clear h15
      go_enter Try.func9, Try.ntmps9
      go_wp2_with fail
      refine (counter_any _).mono ?_
      rintro e w1 ⟨p, q, mb, rfl, hMm, ⟨hp, hq, hmb⟩, hb1⟩
      unfold wayV
      go_wp2_with fail
      refine (noClimb_any _).mono ?_
      rintro e w2 ⟨rfl, hb2⟩
      have M2 := hMm.below hb2
      have b2 := hb1.trans (hb2.mono hb1.size)
      clear hMm
      go_wp2_with fail
      refine (ways_any p q mb M (-1) (-1) 0 _ (by omega) (by omega) (by omega) (by omega) M2 H15.out).mono ?_
      rintro e w3 ⟨rfl, M3, g3⟩
      have b3 := b2.trans (grown_below g3 w.heap.size hmb b2.size)
      go_wp2_with fail
      refine bodyPost_ret (v := .tuple #[.int .i64 ((wayI M (-1) (-1) : Nat) : Int), .bool true]) (by simp [results, Try.results9, go_sem]) rfl ?_
      exact ⟨by rw [H1.out, H2.out], b3⟩

theorem nth_mid {zs L : List Int} {x : Int} {k : Nat} (h : zs.length = k) : nth (zs ++ x :: L) k = x := by subst h; simp [nth, List.getD_eq_getElem?_getD]
theorem set_mid {zs L : List Int} {x y : Int} {k : Nat} (h : zs.length = k) : (zs ++ x :: L).set k y = zs ++ y :: L := by
  subst h
  rw [List.set_append_right _ _ (Nat.le_refl _), Nat.sub_self]
  rfl
theorem Memo.set1 {w : World} {p q mb N : Nat} {a : Addr} (h : Memo w p q mb N) (h1 : a.block < p) (h2 : a.block < q) (h3 : a.block < mb) (u : Value) : Memo (w.setCell a u) p q mb N :=
  h.grown (grown_set w a u) (by simp; omega) (by simp; omega) (by simp; omega)
theorem cl_snoc {zs : List Int} {k : Nat} (h : zs.length = k) (x : Nat) : clLast (zs ++ [(x : Int)]) (k+1) = (x : Int) ∧ clAsc (zs ++ [(x : Int)]) (k+1) = byA (clLast zs k) (clAsc zs k) (x : Int) := by
  subst h
  refine ⟨by rw [clLast_succ]; exact nth_end _ _, ?_⟩
  rw [clAsc, if_neg (by omega), asc_snoc (by omega)]
set_option maxRecDepth 100000 in
set_option maxHeartbeats 8000000 in
theorem iAwith_any (n r : Int) (w : World) (hn : -9223372036854775808 ≤ n ∧ n ≤ 9223372036854775807) (hr : -9223372036854775808 ≤ r ∧ r ≤ 9223372036854775807) :
    Calls Try.prog 15 #[.int .i64 n, .int .i64 r] w fun e w' => ∃ a' cap', e = .returned (.tuple #[.slice a' (awL n r).length cap', .bool (awB n r)]) ∧ OwnI w' w.heap.size (.slice a' (awL n r).length cap') (awL n r) ∧ Below w.heap.size w w' := by
  obtain ⟨i0, hi, hz0, hz1, hz2⟩ := info_parts infoInt
  cases h : caB n
  · have HI := Lib.hid h
    have HI0 : Hid (caN n = 0) := by simp [Hid, caN, h]
    have H2 : Hid (awB n r = false) := by have h' : inB n 0 12 = false := h; simp [Hid, awB, h']
    have H1 : Hid (awL n r = []) := by simp [Hid, awL, H2.out]
    clear h
    go_enter Try.func15, Try.ntmps15
    go_wp2_with fail
    refine (iCountAsc_any n _ hn).mono ?_
    rw [HI.out, HI0.out]
    rintro e w1 ⟨rfl, hb1⟩
    go_wp2_with fail
    refine bodyPost_ret (v := .tuple #[.slice none 0 0, .bool false]) (by simp [results, Try.results15, go_sem]) rfl ?_
    exact ⟨none, 0, by rw [H1.out, H2.out]; rfl, by rw [H1.out]; exact OwnI.nil _ _, hb1⟩
  · have HI := Lib.hid h
    have ⟨h0, h1⟩ := inB_iff.1 (show inB n 0 12 = true from h)
    obtain ⟨N, rfl⟩ := Int.eq_ofNat_of_zero_le h0
    have hN : N ≤ 12 := by omega
    have HI0 : Hid (caN (N : Int) = ((wayI N (-1) (-1) : Nat) : Int)) := by simp [Hid, caN, h]
    have h' : inB (N : Int) 0 12 = true := h
    have hWN := wayI_le N (-1) (-1) (by omega)
    have hWP := pow14 (s := N) (by omega)
    cases h2 : inB r 0 (((wayI N (-1) (-1) : Nat) : Int) - 1)
    · have hno := inB_no.1 h2
      have H2 : Hid (awB (N : Int) r = false) := by simp [Hid, awB, h', h2]
      have H1 : Hid (awL (N : Int) r = []) := by simp [Hid, awL, H2.out]
      clear h h2 h'
      obtain ⟨W, hW⟩ : ∃ W, W = wayI N (-1) (-1) := ⟨_, rfl⟩
      rw [← hW] at hno hWN HI0
      clear hW
      by_cases hr0 : r < 0
      · clear hno
        go_enter Try.func15, Try.ntmps15
        go_wp2_with fail
        refine (iCountAsc_any (N : Int) _ hn).mono ?_
        rw [HI.out, HI0.out]
        rintro e w1 ⟨rfl, hb1⟩
        go_wp2_with fail
        refine bodyPost_ret (v := .tuple #[.slice none 0 0, .bool false]) (by simp [results, Try.results15, go_sem]) rfl ?_
        exact ⟨none, 0, by rw [H1.out, H2.out]; rfl, by rw [H1.out]; exact OwnI.nil _ _, hb1⟩
      · have hr1 : (W : Int) ≤ r := by omega
        clear hno
        go_enter Try.func15, Try.ntmps15
        go_wp2_with fail
        refine (iCountAsc_any (N : Int) _ hn).mono ?_
        rw [HI.out, HI0.out]
        rintro e w1 ⟨rfl, hb1⟩
        go_wp2_with fail
        refine bodyPost_ret (v := .tuple #[.slice none 0 0, .bool false]) (by simp [results, Try.results15, go_sem]) rfl ?_
        exact ⟨none, 0, by rw [H1.out, H2.out]; rfl, by rw [H1.out]; exact OwnI.nil _ _, hb1⟩
    · have ⟨h3, h4⟩ := inB_iff.1 h2
      obtain ⟨R0, rfl⟩ := Int.eq_ofNat_of_zero_le h3
      have HRW : Hid (R0 < wayI N (-1) (-1)) := by rw [Hid]; omega
      have H2 : Hid (awB (N : Int) (R0 : Int) = true) := by simp [Hid, awB, h', h2]
      have H1 : Hid (awL (N : Int) (R0 : Int) = (awS N R0 N).1) := by simp [Hid, awL, H2.out]
      clear h h2 h'
      obtain ⟨W, hW⟩ : ∃ W, W = wayI N (-1) (-1) := ⟨_, rfl⟩
      rw [← hW] at hWN h4 HI0
      have hrw : (R0 : Int) < (W : Int) := by omega
      clear hW h4
      go_enter Try.func15, Try.ntmps15
      go_wp2_with fail
      refine (iCountAsc_any (N : Int) _ hn).mono ?_
      rw [HI.out, HI0.out]
      rintro e w1 ⟨rfl, hb1⟩
      have hs1 := hb1.size
      go_wp2_with (at_make; refine wpList_make_full _ rfl (.tmp 29) (.tmp 29) 25 rfl w.heap.size 3 i0 (.int .i64 0) 1 Try.underlying25 hi hz0 hz1 .i64 .i64 _ _ N rfl rfl rfl rfl (by rw [hz2]; omega) (by unfold maxLen; omega) hs1 ?_; intro w2 hown2 hgrow2; have b2 := hb1.trans (below_grown_none hgrow2 hs1); have o2 := made_row (fun _ => 0) hown2; have ⟨_, hlt2⟩ := o2.lt _ rfl)
      refine (noClimb_any _).mono ?_
      rintro e w3 ⟨rfl, hb3⟩
      have b3 := b2.trans (hb3.mono b2.size)
      have o3 := o2.below hb3 (Nat.le_refl _)
      have ⟨hgl0, hlt3⟩ := o3.lt _ rfl
      obtain ⟨gl, hgl⟩ : ∃ gl, gl = w1.heap.size := ⟨_, rfl⟩
      rw [← hgl] at o3 hlt3 hgl0 ⊢
      clear hgl o2 hown2 hgrow2 b2 hb3 hb1 hs1 hlt2
      go_wp2_with fail
      refine (counter_any _).mono ?_
      rintro e w4 ⟨p, q, mb, rfl, hMm, ⟨hp, hq, hmb⟩, hb4⟩
      have b4 := b3.trans (hb4.mono b3.size)
      have o4 := o3.below hb4 (Nat.le_refl _)
      have hs4 := b4.size
      have hmw : w.heap.size ≤ mb := by omega
      have hpl := hMm.pl
      have hql := hMm.ql
      have hml := hMm.lm
      have hgp : gl < p := by omega
      have hgq : gl < q := by omega
      have hgm : gl < mb := by omega
      have V1 : Var2 (w4.alloc (.cells #[.int .i64 (-1), .int .i64 (-1)] 50)) w4.heap.size (.int .i64 (-1)) (.int .i64 (-1)) := Var2.new w4 _ _ _
      have b5 : Below w.heap.size w (w4.alloc (.cells #[.int .i64 (-1), .int .i64 (-1)] 50)) := b4.alloc hs4 _
      have M5 : Memo (w4.alloc (.cells #[.int .i64 (-1), .int .i64 (-1)] 50)) p q mb 0 := hMm.below ((Below.refl _ _).alloc (Nat.le_refl _) _)
      have o5 : OwnI (w4.alloc (.cells #[.int .i64 (-1), .int .i64 (-1)] 50)) w.heap.size (.slice (some ⟨gl, 0, none⟩) N N) ([] ++ List.replicate (N - 0) 0) := o4.alloc _
      clear hMm hb4 b3 hp hq hmb o3 o4 b4 hlt3
      unfold wayV
      go_wp2_with fail
      obtain ⟨g, hg⟩ : ∃ g, g = w4.heap.size := ⟨_, rfl⟩
      rw [← hg] at V1 hs4 hpl hql hml ⊢
      clear hg
      go_loopw [1, 35] (fun r i wr => ∃ (k : Nat) (zs : List Int) (R : Nat), k ≤ N ∧ awS N R0 k = (zs, R) ∧ i = .int .i64 k ∧ r = .int .i64 R ∧ OwnI wr w.heap.size (.slice (some ⟨gl, 0, none⟩) N N) (zs ++ List.replicate (N - k) 0) ∧ Memo wr p q mb (k * 14 * 1946195068359375) ∧ Var2 wr g (.int .i64 (clLast zs k)) (.int .i64 (clAsc zs k)) ∧ Below w.heap.size w wr) (fun _ i _ => N - (intOf i).toNat)
      case atStart => exact ⟨0, [], R0, Nat.zero_le _, rfl, rfl, rfl, o5, M5.more (Nat.zero_le _), V1, b5⟩
      case round =>
        clear V1 b5 M5 o5
        obtain ⟨k, zs, R, hk, hS, rfl, rfl, hown, hM, hV, hb⟩ := hrel
        have hl : zs.length = k := by have := awS_len N R0 k; rw [hS] at this; exact this
        have HL := Lib.hid hl
        have HSS := Lib.hid hS
        clear hS
        by_cases hlt : k < N
        · obtain ⟨t, ht12, hp1, hp2, hnext⟩ := aw_pick HRW.out hN hlt (zs := zs) (R := R) (by rw [HSS.out]) (by rw [HSS.out])
          have HN := Lib.hid hnext
          have hzN : zs.length < N := by omega
          have hRw : R ≤ 793714773254144 := by
            have := awS_good HRW.out (k := k) (by omega) hN
            rw [HSS.out] at this
            have h5 := clAsc_lt zs k
            have h6 := wayI_le (N - k) (clLast zs k) (clAsc zs k) (by omega)
            have h7 := pow14 (s := N - k) (by omega)
            simp only at this
            omega
          have ⟨ca0, ca1⟩ := clAsc_lt zs k
          obtain ⟨s, hs⟩ : ∃ s, s = N - k - 1 := ⟨_, rfl⟩
          have hsI : (N : Int) - (k : Int) - 1 = (s : Int) := by omega
          have HSI := Lib.hid hsI
          have HWY : Hid (∀ x : Nat, wyL zs N x = wayI s (x : Int) (byA (clLast zs k) (clAsc zs k) (x : Int))) := by
            intro x; rw [wyL, hl, ← hs]
          have h15 := pow15 (s := s + 1) (by omega)
          have HN1 : Hid (∀ j, (k * 14 + j) * 1946195068359375 + 15 ^ (s+1) ≤ (k * 14 + (j + 1)) * 1946195068359375) := by intro j; omega
          have HN2 : Hid (∀ j, j ≤ 13 → (k * 14 + j) * 1946195068359375 + 15 ^ (s+1) ≤ 9000000000000000000) := by intro j hj; omega
          have HAB : Hid (∀ x : Nat, -1 ≤ byA (clLast zs k) (clAsc zs k) (x : Int) ∧ byA (clLast zs k) (clAsc zs k) (x : Int) + (s : Int) ≤ 12) := by
            intro x
            have := byA_bd (l := clLast zs k) (a := clAsc zs k) (x := (x : Int))
            omega
          have hrep : zs ++ List.replicate (N - k) (0 : Int) = zs ++ ((0 : Nat) : Int) :: List.replicate s 0 := by rw [show N - k = s + 1 by omega, List.replicate_succ]; rfl
          rw [hrep] at hown
          have HOW := Lib.hid hown
          have hcast1 : IntKind.i64.wrap ((N : Int) - (k : Int)) = ((s + 1 : Nat) : Int) := by rw [i64_wrap, IntWalk.wrap64_in _ ⟨by omega, by omega⟩]; omega
          have ⟨⟨zV, cV, dV⟩, fV, gV⟩ := hV
          have hs12 : s ≤ 12 := by omega
          clear hnext hl hs hsI h15 hrep hown
          go_wp2_with fail
          refine (by_any _ _ _ _ ca0 (by omega)).mono ?_
          rintro e w6 ⟨rfl, hb6⟩
          have V6 := hV.below hb6
          have M6 := hM.below hb6
          have O6 := HOW.out.below hb6 (Nat.le_refl _)
          have b6 := hb.trans (hb6.mono hb.size)
          clear cV dV fV gV hM hV HOW hb hb6
          go_wp2_with fail
          have HW0 : Hid (wyL zs N 0 = wayI s 0 (byA (clLast zs k) (clAsc zs k) 0)) := HWY.out 0
          have HA0 : Hid (-1 ≤ byA (clLast zs k) (clAsc zs k) 0 ∧ byA (clLast zs k) (clAsc zs k) 0 + (s : Int) ≤ 12) := HAB.out 0
          refine (ways_any p q mb s 0 (byA (clLast zs k) (clAsc zs k) 0) _ _ (by omega) (by omega) HA0.out.1 HA0.out.2 M6 (HN2.out 0 (by omega))).mono ?_
          rw [← HW0.out]
          rintro e w7 ⟨rfl, M7, g7⟩
          have V7 := V6.kept g7 (by simp; omega)
          have O7 := O6.kept g7 (.inr (by simp [Value.ownBlock]; omega))
          have b7 := b6.trans (grown_below g7 w.heap.size hmw b6.size)
          have M8 := M7.more (HN1.out 0)
          clear M6 V6 O6 b6 g7 M7
          go_wp2_with fail
          go_loopw [1, 12] (fun r y wi => ∃ j : Nat, j ≤ t ∧ r = .int .i64 ((R - sumTo (wyL zs N) j : Nat) : Int) ∧ y = .int .i64 ((wyL zs N j : Nat) : Int) ∧ OwnI wi w.heap.size (.slice (some ⟨gl, 0, none⟩) N N) (zs ++ (j : Int) :: List.replicate s 0) ∧ Memo wi p q mb ((k * 14 + (j + 1)) * 1946195068359375) ∧ Var2 wi g (.int .i64 (clLast zs k)) (.int .i64 (clAsc zs k)) ∧ Below w.heap.size w wi) (fun r _ _ => (intOf r).toNat)
          case atStart => exact ⟨0, Nat.zero_le _, by simp [sumTo], rfl, O7, M8, V7, b7⟩
          case round =>
            clear O7 M8 V7 b7
            obtain ⟨j, hj, rfl, rfl, hoi, hMi, hVi, hbi⟩ := hrel
            have hwy := wyL_le (zs := zs) (n := N) (x := j) hzN hN
            have hpos : 1 ≤ wyL zs N j := by rw [HWY.out j]; exact wayI_pos _ _ _ (HAB.out j).1
            have hs1 : sumTo (wyL zs N) (j+1) = sumTo (wyL zs N) j + wyL zs N j := rfl
            obtain ⟨D, hD⟩ : ∃ D, D = R - sumTo (wyL zs N) j := ⟨_, rfl⟩
            obtain ⟨C, hC⟩ : ∃ C, C = wyL zs N j := ⟨_, rfl⟩
            have hDR : D ≤ R := by omega
            have hzl := HL.out
            have hlen : N = (zs ++ (j : Int) :: List.replicate s 0).length := by
              have := HSI.out
              rw [List.length_append, List.length_cons, List.length_replicate]; omega
            have ⟨cl, fl⟩ := hoi.at' hlen (i := k) (by omega)
            rw [nth_mid hzl] at cl
            have ⟨⟨zV, cV, dV⟩, fV, gV⟩ := hVi
            by_cases hjt : j < t
            · have hm := sumTo_mono (f := wyL zs N) (j := j + 1) (k := t) (by omega)
              have hCD : C ≤ D := by omega
              have HDN : Hid (D - C = R - sumTo (wyL zs N) (j+1)) := by rw [Hid]; omega
              have O9 : OwnI (wr.setCell ⟨gl, k, none⟩ (.int .i64 ((j : Int) + 1))) w.heap.size (.slice (some ⟨gl, 0, none⟩) N N) (zs ++ ((j : Int) + 1) :: List.replicate s 0) := by
                have := (hoi.put hlen k ((j : Int) + 1)).1
                rw [set_mid hzl] at this
                exact this
              have M9 := hMi.set1 (a := ⟨gl, k, none⟩) hgp hgq hgm (.int .i64 ((j : Int) + 1))
              have V9 : Var2 (wr.setCell ⟨gl, k, none⟩ (.int .i64 ((j : Int) + 1))) g (.int .i64 (clLast zs k)) (.int .i64 (clAsc zs k)) := hVi.other _ (by simp; omega)
              have b9 := hbi.setCell (p := ⟨gl, k, none⟩) hgl0 (.int .i64 ((j : Int) + 1))
              obtain ⟨wx, hwx⟩ : ∃ wx, wx = wr.setCell ⟨gl, k, none⟩ (.int .i64 ((j : Int) + 1)) := ⟨_, rfl⟩
              rw [← hwx] at O9 M9 V9 b9
              have hlen9 : N = (zs ++ ((j : Int) + 1) :: List.replicate s 0).length := by
                rw [List.length_append, List.length_cons] at hlen ⊢; exact hlen
              have ⟨cl9, fl9⟩ := O9.at' hlen9 (i := k) (by omega)
              rw [nth_mid hzl] at cl9
              have ⟨⟨zV9, cV9, dV9⟩, fV9, gV9⟩ := V9
              have HWX := Lib.hid hwx
              have HW1 : Hid (wyL zs N (j+1) = wayI s ((j : Int) + 1) (byA (clLast zs k) (clAsc zs k) ((j : Int) + 1))) := HWY.out (j+1)
              have HA1 : Hid (-1 ≤ byA (clLast zs k) (clAsc zs k) ((j : Int) + 1) ∧ byA (clLast zs k) (clAsc zs k) ((j : Int) + 1) + (s : Int) ≤ 12) := HAB.out (j+1)
              have hcast2 : IntKind.i64.wrap (s : Int) = (s : Int) := by rw [i64_wrap, IntWalk.wrap64_in _ ⟨by omega, by omega⟩]
              have hcast3 : IntKind.i64.wrap ((j : Int) + 1) = (j : Int) + 1 := by rw [i64_wrap, IntWalk.wrap64_in _ ⟨by omega, by omega⟩]
              rw [← hD, ← hC]
              have hge : (C : Int) ≤ (D : Int) := by omega
              rw [← hC] at hwy hpos
              have hDR' : D ≤ 793714773254144 := by omega
              clear hC
              clear hm hs1 hD hzl hlen hlen9 hoi hMi hVi hbi hwx
              go_wp2_with fail
              rw [← HWX.out]
              clear cl fl cV dV fV gV
              go_region_law (first | (have _g := M10; go_simp; go_at_call 42; refine (ways_any p q mb s ((j : Int) + 1) (byA (clLast zs k) (clAsc zs k) ((j : Int) + 1)) ((k * 14 + (j + 1)) * 1946195068359375) _ (by omega) (by omega) HA1.out.1 HA1.out.2 (by first | exact M10 | exact M10.grown (grown_drewN _ _ none) (by simp) (by simp) (by simp)) (HN2.out (j + 1) (by omega))).mono ?_; rw [← HW1.out]; rintro e w11 ⟨rfl, M11, g11⟩) | (go_simp; go_at_call 36; refine (by_any _ _ _ _ ca0 (by omega)).mono ?_; rintro e w10 ⟨rfl, hb10⟩; have ht10 : Below wx.heap.size wx w10 := (by first | exact below_drew hb10 | exact hb10 | exact Below.trans (Below.refl _ wx).drew (hb10.mono (Nat.le_refl _))); have M10 := M9.below ht10))
              all_goals
                have b11 := (b9.trans (ht10.mono b9.size)).trans (grown_below g11 w.heap.size hmw (b9.trans (ht10.mono b9.size)).size)
                have V11 := (V9.below ht10).kept g11 (by simp; omega)
                have O11 := (O9.below ht10 (Nat.le_refl _)).kept g11 (.inr (by simp [Value.ownBlock]; omega))
                have M12 := Lib.hid (M11.more (HN1.out (j + 1)))
                clear M11 M10 _g g11 ht10 hb10 O9 M9 V9 b9 cV9 dV9 fV9 gV9 cl9 fl9
                go_simp
                go_wp2_with fail
                go_roundw
                case rel => exact ⟨j + 1, by omega, by rw [← HDN.out]; exact val_int (by omega), rfl, O11, M12.out, V11, b11⟩
                case measure => simp [intOf]; omega
            · obtain rfl : j = t := by omega
              have hCD : D < C := by omega
              have HDN : Hid (awS N R0 (k+1) = (zs ++ [(j : Int)], D)) := by rw [Hid, HN.out, ← hD]
              have ⟨hc1, hc2⟩ := cl_snoc hzl j
              have HC1 := Lib.hid hc1
              have HC2 := Lib.hid hc2
              have HO : Hid (zs ++ (j : Int) :: List.replicate s 0 = (zs ++ [(j : Int)]) ++ List.replicate (N - (k + 1)) 0) := by
                have := HSI.out
                rw [Hid, List.append_assoc, show N - (k + 1) = s by omega]; rfl
              rw [← hD, ← hC]
              have hge : ¬ (C : Int) ≤ (D : Int) := by omega
              have HOI := Lib.hid hoi
              have HBI := Lib.hid hbi
              have HMI := Lib.hid hMi
              have HVI := Lib.hid hVi
              clear hs1 hD hC hc1 hc2 hzl hlen hoi hMi hVi hbi hwy hpos
              go_wp2_with fail
              go_region_law (go_simp; go_at_call 36; refine (by_any _ _ _ _ ca0 (by omega)).mono ?_; rintro e w10 ⟨rfl, hb10⟩; have ht10 : Below wr.heap.size wr w10 := (by first | exact below_drew hb10 | exact hb10 | exact Below.trans (Below.refl _ wr).drew (hb10.mono (Nat.le_refl _))); have V10 := HVI.out.below ht10; have ⟨⟨zV0, cV0, dV0⟩, fV0, gV0⟩ := V10)
              all_goals
                have b11 := (HBI.out.trans (ht10.mono HBI.out.size)).setCell (p := ⟨g, 0, none⟩) hs4 (.int .i64 (j : Int))
                have b12 := b11.setCell (p := ⟨g, 1, none⟩) hs4 (.int .i64 (byA (clLast zs k) (clAsc zs k) (j : Int)))
                have V11 := V10.set (.int .i64 (j : Int)) (.int .i64 (byA (clLast zs k) (clAsc zs k) (j : Int)))
                have O10 := HOI.out.below ht10 (Nat.le_refl _)
                have O11 := (O10.kept (grown_set w10 ⟨g, 0, none⟩ (.int .i64 (j : Int))) (.inr (by simp [Value.ownBlock]; omega))).kept (grown_set _ ⟨g, 1, none⟩ (.int .i64 (byA (clLast zs k) (clAsc zs k) (j : Int)))) (.inr (by simp [Value.ownBlock]; omega))
                have M11 := ((HMI.out.below ht10).set2 hpl hql hml (.int .i64 (j : Int)) (.int .i64 (byA (clLast zs k) (clAsc zs k) (j : Int)))).more (N' := (k + 1) * 14 * 1946195068359375) (by omega)
                rw [HO.out] at O11
                clear cV0 dV0 fV0 gV0 V10 b11 O10
                go_wp2_with fail
                go_roundw
                case rel => exact ⟨k + 1, _, _, by omega, HDN.out, by go_num, rfl, O11, M11, by rw [HC1.out, HC2.out]; exact V11, b12⟩
                case measure => simp [intOf]; omega
        · obtain rfl : k = N := by omega
          have HE : Hid (awL (k : Int) (R0 : Int) = zs) := by rw [Hid, H1.out, HSS.out]
          have HO : Hid (OwnI wr w.heap.size (.slice (some ⟨gl, 0, none⟩) zs.length k) zs) := by
            have h2 : zs ++ List.replicate (k - k) (0 : Int) = zs := by simp
            rw [h2] at hown
            rw [Hid, hl]; exact hown
          clear hl hown
          go_wp2_with fail
          refine bodyPost_ret (v := .tuple #[.slice (some ⟨gl, 0, none⟩) k k, .bool true]) (by simp [results, Try.results15, go_sem]) rfl ?_
          exact ⟨some ⟨gl, 0, none⟩, k, by rw [HE.out, H2.out, HL.out], by rw [HE.out]; exact HO.out, hb⟩

/-- the marks k, k + 1, .. -/
def marks (k : Int) (n : Nat) : List Int := (List.range n).map (fun (j : Nat) => k + (j : Int))
theorem marks_len (k : Int) (n : Nat) : (marks k n).length = n := by simp [marks]
theorem marks_nth {k : Int} {n j : Nat} (h : j < n) : nth (marks k n) j = k + j := by
  simp [nth, marks, h]
theorem mark_step (k : Int) (xs : List Int) (j : Nat) (h : j < xs.length) :
    ((marks k j ++ xs.drop j).map (Value.int .i64)).set j (.int .i64 (k + j)) = (marks k (j+1) ++ xs.drop (j+1)).map (Value.int .i64) := by
  apply List.ext_getElem?
  intro i
  rw [List.getElem?_set]
  by_cases hj : j = i
  · subst hj
    rw [if_pos rfl, if_pos (by simp [marks_len]; omega), List.getElem?_map, List.getElem?_append_left (by rw [marks_len]; omega)]
    simp [marks]
  · simp only [hj, if_false, List.getElem?_map, List.getElem?_append, marks_len, List.getElem?_drop]
    by_cases h1 : i < j
    · have h2 : i < j + 1 := by omega
      simp [h1, h2, marks]
    · have h2 : ¬ i < j + 1 := by omega
      have h3 : j + (i - j) = j + 1 + (i - (j + 1)) := by omega
      simp [h1, h2, h3]
theorem own_ne {v u : Value} (h : ∀ c, v.ownBlock = some c → u.ownBlock ≠ some c) : v.ownBlock = none ∨ v.ownBlock ≠ u.ownBlock := by
  cases hv : v.ownBlock with
  | none => exact .inl rfl
  | some c => exact .inr (fun e => h c hv e.symm)

theorem markIntS_any (a : Option Addr) (xs : List Int) (cap : Nat) (k : Int) (B : Nat) (w : World) (h0 : 0 ≤ k) (h1 : k ≤ 1099511627776) (hn : xs.length ≤ 1048576) (ho : OwnI w B (.slice a xs.length cap) xs) :
    Calls Try.prog 16 #[.slice a xs.length cap, .int .i64 k] w fun e w' => e = .returned (.int .i64 (k + xs.length)) ∧ OwnI w' B (.slice a xs.length cap) (marks k xs.length) ∧ w.grownBy w' (Value.slice a xs.length cap).ownBlock := by
  go_enter Try.func16, Try.ntmps16
  go_wp2_with fail
  go_loopw [1, 5] (fun k' i wr => ∃ j : Nat, j ≤ xs.length ∧ i = .int .i64 j ∧ k' = .int .i64 (k + j) ∧ wr.ownsRow B 3 1 (.slice a xs.length cap) xs.length ((marks k j ++ xs.drop j).map (Value.int .i64)) ∧ w.grownBy wr (Value.slice a xs.length cap).ownBlock) (fun _ i _ => xs.length - (intOf i).toNat)
  case atStart => exact ⟨0, Nat.zero_le _, rfl, by simp, by (have e : marks k 0 ++ xs.drop 0 = xs := by simp [marks]); rw [e]; exact ho, World.grownBy.refl _ _⟩
  case round =>
    obtain ⟨j, hj, rfl, rfl, hown, hg⟩ := hrel
    by_cases hlt : j < xs.length
    · obtain ⟨g, rfl⟩ : ∃ g, a = some ⟨g, 0, none⟩ := by
        rcases hown.2 with ⟨e, h⟩ | ⟨g, c, cur, e, _⟩
        · omega
        · simp only [Value.slice.injEq] at e
          exact ⟨g, e.1⟩
      have hst := World.ownsRow.stored hown j (.int .i64 (k + j))
      rw [mark_step k xs j hlt] at hst
      have hcc := World.ownsRow.cellAt hown j (by omega)
      have hfr := World.ownsRow.frozenAt hown j
      have hcc' : ∃ u, wr.cell? ⟨g, j, none⟩ = some u := by
        rw [hcc]
        exact ⟨_, List.getElem?_eq_getElem (by simp [marks_len]; omega)⟩
      obtain ⟨u, hu⟩ := hcc'
      have Hst := Lib.hid hst
      have Hg := Lib.hid (grown_trans hg hst.2)
      clear hst hcc hown hg
      go_wp2
      go_roundw
      case rel => exact ⟨j + 1, by omega, by go_num, by go_num, Hst.out.1, Hg.out⟩
      case measure => simp [intOf]; omega
    · obtain rfl : j = xs.length := by omega
      go_wp2
      go_ret
      refine ⟨rfl, ?_, hg⟩
      have e : marks k xs.length ++ xs.drop xs.length = marks k xs.length := by simp
      rw [e] at hown
      show World.ownsRow _ _ _ _ _ _ _
      rw [marks_len]
      exact hown

def eqL (xs ys : List Int) : Bool := decide (xs = ys)
theorem eqIntS_any (a b : Option Addr) (xs ys : List Int) (ca cb : Nat) (w : World) (hx : Rd w a xs) (hy : Rd w b ys) :
    Calls Try.prog 13 #[.slice a xs.length ca, .slice b ys.length cb] w fun e w' => e = .returned (.bool (eqL xs ys)) ∧ Below w.heap.size w w' := by
  have hlx := hx.len
  have hly := hy.len
  by_cases hl : xs.length = ys.length
  · have hl' : ((xs.length : Int) != (ys.length : Int)) = false := by simp [hl]
    go_enter Try.func13, Try.ntmps13
    have HL := Lib.hid hl
    clear hl
    go_wp2_with fail
    go_loopw [5] (fun i wr => ∃ k : Nat, k ≤ xs.length ∧ i = .int .i64 k ∧ xs.take k = ys.take k ∧ Below w.heap.size w wr) (fun i _ => xs.length - (intOf i).toNat)
    case atStart => exact ⟨0, Nat.zero_le _, rfl, rfl, Below.refl _ _⟩
    case round =>
      obtain ⟨k, hk, rfl, htk, hb⟩ := hrel
      have HT := Lib.hid htk
      clear htk
      by_cases hlt : k < xs.length
      · have hlt' : k < ys.length := by rw [← HL.out]; exact hlt
        obtain ⟨b1, o1, rfl, hb1, hc1⟩ := (hx.below hb).cell k hlt
        obtain ⟨b2, o2, rfl, hb2, hc2⟩ := (hy.below hb).cell k hlt'
        by_cases he : nth xs k = nth ys k
        · have he' : (nth xs k != nth ys k) = false := by simp [he]
          have HE := Lib.hid he
          clear he
          go_wp2_with fail
          go_quiet (fail)
          go_wp2_with fail
          go_roundw
          case rel =>
            refine ⟨k + 1, by omega, by go_num, ?_, by exact hb.trans (Joins.below_draws _ _ _)⟩
            rw [List.take_succ_eq_append_getElem hlt, List.take_succ_eq_append_getElem hlt', HT.out, ← nth_get, ← nth_get, HE.out]
          case measure => simp [intOf]; omega
        · have he' : (nth xs k != nth ys k) = true := by simp [he]
          have hne : eqL xs ys = false := by
            simp only [eqL, decide_eq_false_iff_not]
            intro e
            subst e
            exact he rfl
          have HN := Lib.hid hne
          clear he hne
          go_wp2_with fail
          go_quiet (fail)
          go_wp2_with fail
          go_ret
          exact ⟨ret_bool HN.out.symm, hb.trans (Joins.below_draws _ _ _)⟩
      · go_wp2_with fail
        go_ret
        refine ⟨ret_bool ?_, hb⟩
        have h1 := HT.out
        rw [List.take_of_length_le (by omega), List.take_of_length_le (by rw [← HL.out]; omega)] at h1
        simp [eqL, h1]
  · have hl' : ((xs.length : Int) != (ys.length : Int)) = true := by simp; omega
    have hne : eqL xs ys = false := by
      simp only [eqL, decide_eq_false_iff_not]
      intro e
      exact hl (by rw [e])
    have HN := Lib.hid hne
    clear hl hne
    go_enter Try.func13, Try.ntmps13
    go_wp2_with fail
    go_ret
    exact ⟨ret_bool HN.out.symm, Below.refl _ _⟩
theorem eqL_self (xs : List Int) : eqL xs xs = true := by simp [eqL]

theorem heldIntS_any (a : Option Addr) (n cap : Nat) (k : Int) (w : World) (h0 : 0 ≤ k) (h1 : k ≤ 1099511627776) (hn : n ≤ 1048576) (hx : Rd w a (marks k n)) :
    Calls Try.prog 17 #[.slice a n cap, .int .i64 k] w fun e w' => e = .returned (.int .i64 (k + n)) ∧ Below w.heap.size w w' := by
  go_enter Try.func17, Try.ntmps17
  go_wp2_with fail
  go_loop [1, 5] (fun k' i => ∃ j : Nat, j ≤ n ∧ i = .int .i64 j ∧ k' = .int .i64 (k + j)) (fun _ i => n - (intOf i).toNat)
  case atStart => exact ⟨0, Nat.zero_le _, rfl, by simp⟩
  case round =>
    obtain ⟨j, hj, rfl, rfl⟩ := hrel
    by_cases hlt : j < n
    · obtain ⟨b, off, rfl, hbl, hc⟩ := hx.cell j (by rw [marks_len]; exact hlt)
      rw [marks_nth hlt] at hc
      go_wp2_with fail
      go_round
      case rel => exact ⟨j + 1, by omega, by go_num, by go_num⟩
      case measure => simp [intOf]; omega
    · obtain rfl : j = n := by omega
      go_wp2_with fail
      go_ret
      exact ⟨rfl, (by repeat (first | exact Below.refl _ _ | assumption | refine Below.alloc ?_ (by first | exact Nat.le_refl _ | (simp only [World.size_alloc, World.size_setCell, World.size_drew]; omega) | omega) _ | refine Below.setCell ?_ (by first | exact Nat.le_refl _ | (simp only [World.size_alloc, World.size_setCell, World.size_drew]; omega) | omega) _ | refine Below.drew ?_))⟩

theorem walk (i0 : Int) (i1 : Int) (w : World) (hi0 : -9223372036854775808 ≤ i0 ∧ i0 ≤ 9223372036854775807) (hi1 : -9223372036854775808 ≤ i1 ∧ i1 ≤ 9223372036854775807) :
    Calls Try.prog 5 #[.int .i64 i0, .int .i64 i1] w fun e w' => e = .returned (.bool true) ∧ Below w.heap.size w w' := by
  have hR0 : (awL i0 i1).length ≤ 1048576 := awL_len i0 i1
  go_enter Try.func5, Try.ntmps5
  go_wp2_with fail
  refine (sAwith_any _ _ _ hi0 hi1).mono ?_
  rintro e w1 ⟨pR0, qR0, rfl, ho0, hb⟩
  have ht : Below w.heap.size w w1 := Below.trans (by repeat (first | exact Below.refl _ _ | assumption | refine Below.alloc ?_ (by first | exact Nat.le_refl _ | (simp only [World.size_alloc, World.size_setCell, World.size_drew]; omega) | omega) _ | refine Below.setCell ?_ (by first | exact Nat.le_refl _ | (simp only [World.size_alloc, World.size_setCell, World.size_drew]; omega) | omega) _ | refine Below.drew ?_)) (hb.mono (by first | (simp only [World.size_alloc, World.size_setCell, World.size_drew]; omega) | omega))
  have z1 : w.heap.size ≤ w1.heap.size := ht.size
  have bw1 : Below w.heap.size w w1 := ht
  have R0_1 := ho0
  have UR0 := R0_1.cut (Nat.le_refl _)
  clear ho0
  clear ht hb
  go_wp2_with fail
  refine (iAwith_any _ _ _ hi0 hi1).mono ?_
  rintro e w2 ⟨pG0, qG0, rfl, ho0, hb⟩
  have ht : Below w1.heap.size w1 w2 := hb
  have z2 : w1.heap.size ≤ w2.heap.size := ht.size
  have bw2 : Below w.heap.size w w2 := bw1.trans (ht.mono bw1.size)
  have R0_2 := R0_1.below ht (Nat.le_refl _)
  clear R0_1
  have G0_2 := ho0
  have UG0 := G0_2.cut (Nat.le_refl _)
  clear ho0
  clear ht hb
  go_wp2_with fail
  refine (eqIntS_any _ _ (awL i0 i1) (awL i0 i1) _ _ _ (G0_2.rd) (R0_2.rd)).mono ?_
  rw [eqL_self]
  rintro e w3 ⟨rfl, hb⟩
  have ht : Below w2.heap.size w2 w3 := hb
  have z3 : w2.heap.size ≤ w3.heap.size := ht.size
  have bw3 : Below w.heap.size w w3 := bw2.trans (ht.mono bw2.size)
  have R0_3 := R0_2.below ht (Nat.le_refl _)
  have G0_3 := G0_2.below ht (Nat.le_refl _)
  clear R0_2 G0_2
  clear ht hb
  go_wp2_with fail
  refine (markIntS_any _ _ _ _ _ _ (by omega) (by omega) hR0 G0_3).mono ?_
  rintro e w4 ⟨rfl, ho, hg⟩
  have z4 : w3.heap.size ≤ w4.heap.size := hg.size
  have bw4 : Below w.heap.size w w4 := bw3.trans (below_of_grown hg (fun b e => by have := UG0 b e; omega) (by omega))
  have R0_4 := R0_3.kept hg (own_ne (fun c e e2 => by have h1 := UR0 c e; have h2 := UG0 c e2; omega))
  clear R0_3 G0_3 hg
  have G0_4 := ho
  clear ho
  go_wp2_with fail
  refine (heldIntS_any _ _ _ _ _ (by omega) (by omega) hR0 G0_4.rd).mono ?_
  rintro e w5 ⟨rfl, hb⟩
  have ht : Below w4.heap.size w4 w5 := hb
  have z5 : w4.heap.size ≤ w5.heap.size := ht.size
  have bw5 : Below w.heap.size w w5 := bw4.trans (ht.mono bw4.size)
  have R0_5 := R0_4.below ht (Nat.le_refl _)
  have G0_5 := G0_4.below ht (Nat.le_refl _)
  clear R0_4 G0_4
  clear ht hb
  go_wp2_with fail
  refine (iAwith_any _ _ _ hi0 hi1).mono ?_
  rintro e w6 ⟨pH0, qH0, rfl, ho0, hb⟩
  have ht : Below w5.heap.size w5 w6 := hb
  have z6 : w5.heap.size ≤ w6.heap.size := ht.size
  have bw6 : Below w.heap.size w w6 := bw5.trans (ht.mono bw5.size)
  have R0_6 := R0_5.below ht (Nat.le_refl _)
  have G0_6 := G0_5.below ht (Nat.le_refl _)
  clear R0_5 G0_5
  have H0_6 := ho0
  have UH0 := H0_6.cut (Nat.le_refl _)
  clear ho0
  clear ht hb
  go_wp2_with fail
  refine (eqIntS_any _ _ (awL i0 i1) (awL i0 i1) _ _ _ (H0_6.rd) (R0_6.rd)).mono ?_
  rw [eqL_self]
  rintro e w7 ⟨rfl, hb⟩
  have ht : Below w6.heap.size w6 w7 := hb
  have z7 : w6.heap.size ≤ w7.heap.size := ht.size
  have bw7 : Below w.heap.size w w7 := bw6.trans (ht.mono bw6.size)
  have R0_7 := R0_6.below ht (Nat.le_refl _)
  have G0_7 := G0_6.below ht (Nat.le_refl _)
  have H0_7 := H0_6.below ht (Nat.le_refl _)
  clear R0_6 G0_6 H0_6
  clear ht hb
  go_wp2_with fail
  refine (heldIntS_any _ _ _ _ _ (by omega) (by omega) hR0 G0_7.rd).mono ?_
  rintro e w8 ⟨rfl, hb⟩
  have ht : Below w7.heap.size w7 w8 := hb
  have z8 : w7.heap.size ≤ w8.heap.size := ht.size
  have bw8 : Below w.heap.size w w8 := bw7.trans (ht.mono bw7.size)
  have R0_8 := R0_7.below ht (Nat.le_refl _)
  have G0_8 := G0_7.below ht (Nat.le_refl _)
  have H0_8 := H0_7.below ht (Nat.le_refl _)
  clear R0_7 G0_7 H0_7
  clear ht hb
  go_wp2_with fail
  go_ret
  exact ⟨rfl, bw8⟩

theorem rd_of_trod {H : Type} {enc : TypeId × Value → H} {W : World} {fuel : Nat} {c : Value} {y : DataW H × List MemPlace}
    (h : DataW.trod enc Try.prog W 0 (fun _ => true) true fuel 25 [c] = some y) : ∃ (a : Option Addr) (xs : List Int) (cap : Nat), c = .slice a xs.length cap ∧ Rd W a xs ∧ ∀ k, k < xs.length → (Lit.int .i64 (nth xs k)).wf = true := by
  rcases Go.ChangeShapes.open_ints Try.underlying25 Try.underlying3 (by kernel_rfl) h with ⟨hcs, _⟩ | ⟨x, len, cap, zs, hcs, _, hl, hm, hz, _, hcell, hwf⟩
  · simp only [List.cons.injEq, and_true] at hcs
    exact ⟨none, [], 0, hcs, ⟨by simp, fun k hk => by simp at hk⟩, fun k hk => by simp at hk⟩
  · simp only [List.cons.injEq, and_true] at hcs
    simp only [if_true] at hz
    have hlen : (zs.take len).length = len := by rw [List.length_take]; omega
    have hn : ∀ k, k < len → nth (zs.take len) k = zs.getD k 0 := by
      intro k hk
      simp only [nth, List.getD_eq_getElem?_getD, List.getElem?_take, hk, if_true]
    refine ⟨some x, zs.take len, cap, by rw [hlen]; exact hcs, ⟨by rw [hlen]; unfold maxLen at hm; omega, fun k hk => ?_⟩, fun k hk => ?_⟩
    · rw [hlen] at hk
      obtain ⟨b, off, sp⟩ := x
      have h0 := hcell 0 (by omega)
      have hsp : sp = none := by simpa [Addr.add] using World.cell?_spot h0
      subst hsp
      have hk' := hcell k (by omega)
      rw [Addr.add_lit] at hk'
      exact ⟨b, off, rfl, World.block_lt_of_cell? _ _ h0, by rw [hk', hn k hk]⟩
    · rw [hlen] at hk
      rw [hn k hk]
      have hk2 : k < zs.length := by omega
      exact hwf _ (by rw [List.getD_eq_getElem?_getD, List.getElem?_eq_getElem hk2]; exact List.getElem_mem hk2)

theorem own : ownKnob Try.prog.godebug = none := by kernel_rfl
theorem laidOut : laidOutB Try.prog = true := by kernel_rfl
theorem wf_bd {n : Int} (h : (Lit.int .i64 n).wf = true) : -9223372036854775808 ≤ n ∧ n ≤ 9223372036854775807 := by
  simp [Lit.wf, IntKind.min, IntKind.max, IntKind.bits, IntKind.signed] at h
  omega

open Go.ChangeShapes Go.WideShapes Go.ChangeAt Go.RowKit in
set_option maxRecDepth 100000 in
theorem lifted (os : Os) (started : os.Started) (H : Type) (enc : TypeId × Value → H) :
    ReturnsInHanded {} Try.checked os 5 .any (Rows.fnExactAscentWithSpec.pre6 enc Try.prog Try.f5 Rows.fnExactAscentWithRow.domain false) (Rows.fnExactAscentWithSpec.post enc Try.prog Try.f5 false true false false) := by
  refine returnsInHanded_of_change (C := Try.checked) own started (by kernel_rfl) Try.func5
    (ChangeSpec.witness6 (enc := enc) (C := Try.checked) false ⟨#[], #[.int .i64 0, .int .i64 0], []⟩ 8 (by kernel_rfl) (by kernel_rfl) (by kernel_rfl) (by kernel_rfl)) ?_
  intro W base args ds gs before hval0 hW hcnd _
  have hval : ∀ (j : Nat) t v, Try.f5.params[j]? = some t → args[j]? = some v → Value.okWide Try.prog W .any base t v := hval0
  have hW' := hW
  obtain ⟨p, q, hA0, hV, rfl, hfz, hnd⟩ := hW
  have hA : DataW.TrodAll enc Try.prog W 0 (fun _ => true) true Try.f5.params.toList args.toList ds p := hA0
  rw [Try.params5] at hA hval
  obtain ⟨v0, vs0, d0, ds0, p0, q0, hargs, rfl, rfl, h0, r0⟩ := trodAll_cons hA
  obtain ⟨v1, vs1, d1, ds1, p1, q1, rfl, rfl, rfl, h1, r1⟩ := trodAll_cons r0
  obtain ⟨rfl, rfl, rfl⟩ := trodAll_nil r1
  obtain rfl : args = #[v0, v1] := by cases args; simp_all
  obtain ⟨rfl, rfl⟩ := trodVars_none hV
  have lt0 : ∀ x ∈ p0, x.block < W.heap.size := by obtain ⟨m, hm⟩ := h0; exact DataW.trod_lt m _ _ _ hm
  have lt1 : ∀ x ∈ p1, x.block < W.heap.size := by obtain ⟨m, hm⟩ := h1; exact DataW.trod_lt m _ _ _ hm
  obtain ⟨i0, rfl, hd0, hp0, wf0⟩ := open_int Try.underlying3 (hval 0 3 v0 rfl rfl) h0
  obtain ⟨i1, rfl, hd1, hp1, wf1⟩ := open_int Try.underlying3 (hval 1 3 v1 rfl rfl) h1
  clear hA0 hval0
  refine (walk i0 i1 W (wf_bd wf0) (wf_bd wf1)).mono fun e W' ⟨he, bel⟩ => ?_
  subst he
  exact ⟨_, rfl, _, _, _, [], _, [], hW', trodAll_mk1 (shut_bool Try.underlying4 _), (trodAll_cons_mk (Below.trod laidOut (by kernel_rfl) (of_decide_eq_true (by kernel_rfl)) h0 bel lt0) (trodAll_cons_mk (Below.trod laidOut (by kernel_rfl) (of_decide_eq_true (by kernel_rfl)) h1 bel lt1) trodAll_mk0)), rfl, bel.frame _, fun h => by cases h⟩
theorem proved : Rows.FnExactAscentWithSaid :=
  OpenClaim.holds_of_wide 5 Try.f5 rfl rfl rfl rfl rfl rfl rfl ⟨rfl, rfl, rfl, rfl, rfl⟩ rfl rfl rfl rfl rfl (by kernel_rfl) Try.func5 (by kernel_rfl)
    (of_decide_eq_true (by kernel_rfl)) (by unfold Func.isWrapper; first | (rw [if_pos (by decide +kernel)]; kernel_rfl) | (rw [if_neg (by decide +kernel)]; exact ⟨rfl, rfl⟩))
    (fun os started H enc _ => lifted os started H enc)

end Go.Proofs.Ytkhilginiahebab.ascentWith
