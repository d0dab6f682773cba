/- PROVED: the law FnExactListAscents returns true for every input, and each of its arguments reads afterwards as before. No conditions. -/
import Derived.Test.YtkhilginiahebaaRows
import Derived.WalkKit
import Derived.WalkSpells
import Derived.WalkLawsBesides
import Derived.Deep.QuietTactic
import Derived.BigQuiet
import Derived.ProofKit
import Derived.OpenShut
import Derived.ShutString
import Derived.ChangeOld
import Derived.Below
import Derived.Lib.SmallJoins
import Derived.Lib.Hide
import Derived.Maps.AppendAt
import Derived.Deep.AppendLies
import Derived.Deep.RegionLaw
import Derived.Laws.CopyOwn
import Derived.Deep.DeepMust
import Derived.Laws.Cover3
import Derived.Deep.RegionHeld3
namespace Go.Proofs.Ytkhilginiahebaa.listAscents
open Go Go.RowKit
set_option linter.unusedVariables false
set_option linter.unusedSimpArgs false
set_option maxHeartbeats 400000


/-- a number of a list; a plain function, which the walk leaves alone -/
def nth (xs : List Int) (k : Nat) : Int := xs.getD k 0
theorem nth_get (xs : List Int) (k : Nat) (h : k < xs.length) : nth xs k = xs[k] := by simp [nth, h]
/-- the slice at an address reads as a list -/
structure Rd (w : World) (a : Option Addr) (xs : List Int) : Prop where
  len : xs.length ≤ 9223372036854775807
  cell : ∀ k, k < xs.length → ∃ b off, a = some ⟨b, off, none⟩ ∧ b < w.heap.size ∧ w.cell? ⟨b, off + k, none⟩ = some (.int .i64 (nth xs k))
theorem Rd.below {w w' : World} {a : Option Addr} {xs : List Int} (h : Rd w a xs) (hb : Below w.heap.size w w') : Rd w' a xs :=
  ⟨h.len, fun k hk => by
    obtain ⟨b, off, e, hl, hc⟩ := h.cell k hk
    exact ⟨b, off, e, Nat.lt_of_lt_of_le hl hb.size, (hb.cell (World.block_lt_of_cell? _ _ hc)).trans hc⟩⟩
theorem Rd.mid {w w1 w2 : World} {a : Option Addr} {xs : List Int} {B : Nat} (h : Rd w a xs) (hb : Below B w1 w2) (hB : w.heap.size ≤ B) (h1 : Rd w1 a xs) : Rd w2 a xs :=
  ⟨h.len, fun k hk => by
    obtain ⟨b, off, e, hl, hc⟩ := h.cell k hk
    obtain ⟨b', off', e', hl', hc'⟩ := h1.cell k hk
    rw [e] at e'
    simp only [Option.some.injEq, Addr.mk.injEq, and_true] at e'
    obtain ⟨rfl, rfl⟩ := e'
    exact ⟨b, off, e, Nat.lt_of_lt_of_le hl' hb.size, (hb.cell (by show b < B; omega)).trans hc'⟩⟩
theorem Rd.alloc {w : World} {a : Option Addr} {xs : List Int} (h : Rd w a xs) (o : Obj) : Rd (w.alloc o) a xs :=
  h.below ((Below.refl _ _).alloc (Nat.le_refl _) o)
theorem Rd.same {w w' : World} {a : Option Addr} {xs : List Int} (h : Rd w a xs) (hs : w.heap.size ≤ w'.heap.size)
    (hb : ∀ b off, a = some ⟨b, off, none⟩ → w'.heap[b]? = w.heap[b]?) : Rd w' a xs :=
  ⟨h.len, fun k hk => by
    obtain ⟨b, off, e, hl, hc⟩ := h.cell k hk
    exact ⟨b, off, e, Nat.lt_of_lt_of_le hl hs, (World.cell?_of_block (w := w) (a := ⟨b, off + k, none⟩) (hb b off e)).trans hc⟩⟩
/-- a slice value that owns the row of these integers, in a block from B on -/
def OwnI (w : World) (B : Nat) (v : Value) (xs : List Int) : Prop := w.ownsRow B 3 1 v xs.length (xs.map (Value.int .i64))
theorem OwnI.form {w : World} {B : Nat} {v : Value} {xs : List Int} (h : OwnI w B v xs) : ∃ a cap, v = .slice a xs.length cap := by
  rcases h.2 with ⟨rfl, h0⟩ | ⟨g, cap, cur, rfl, _⟩
  · exact ⟨none, 0, by rw [h0]⟩
  · exact ⟨_, _, rfl⟩
theorem OwnI.rd {w : World} {B n cap : Nat} {a : Option Addr} {xs : List Int} (h : OwnI w B (.slice a n cap) xs) : Rd w a xs := by
  rcases h.2 with ⟨e, h0⟩ | ⟨g, cap', cur, e, hb, hg, hn, hm, hs, ht⟩
  · exact ⟨by omega, fun k hk => by omega⟩
  · simp only [Value.slice.injEq] at e
    obtain ⟨rfl, rfl, rfl⟩ := e
    refine ⟨by unfold maxLen at hm; omega, fun k hk => ⟨g, 0, rfl, (Array.getElem?_eq_some_iff.1 hg).1, ?_⟩⟩
    have := World.ownsRow.cellAt h k (by omega)
    rw [Nat.zero_add, this]
    simp [nth, hk]
theorem OwnI.blk {w : World} {B n cap : Nat} {a : Option Addr} {xs : List Int} (h : OwnI w B (.slice a n cap) xs) : ∀ b off s, a = some ⟨b, off, s⟩ → B ≤ b ∧ b < w.heap.size := by
  intro b off s e
  subst e
  exact World.ownsRow.lt h b rfl
theorem OwnI.kept {w w' : World} {B : Nat} {v : Value} {xs : List Int} {row : Option Nat} (h : OwnI w B v xs) (hg : w.grownBy w' row) (hne : v.ownBlock = none ∨ v.ownBlock ≠ row) : OwnI w' B v xs := World.ownsRow.kept h hg hne
theorem OwnI.mono {w : World} {B B' : Nat} {v : Value} {xs : List Int} (h : OwnI w B v xs) (hB : B' ≤ B) : OwnI w B' v xs := by
  refine ⟨h.1, ?_⟩
  rcases h.2 with hn | ⟨g, cap, cur, e, hb, rest⟩
  · exact .inl hn
  · exact .inr ⟨g, cap, cur, e, by omega, rest⟩
theorem OwnI.below {w w' : World} {B B' : Nat} {v : Value} {xs : List Int} (h : OwnI w B v xs) (hb : Below B' w w') (hB : w.heap.size ≤ B') : OwnI w' B v xs := by
  refine ⟨h.1, ?_⟩
  rcases h.2 with hn | ⟨g, cap, cur, e, hb', hg, rest⟩
  · exact .inl hn
  · refine .inr ⟨g, cap, cur, e, hb', ?_, rest⟩
    rw [hb.block g (by have := (Array.getElem?_eq_some_iff.1 hg).1; omega)]
    exact hg
theorem ret_bool {a b : Bool} (h : a = b) : Ending.returned (.bool a) = .returned (.bool b) := by rw [h]
theorem ret_int {a b : Int} (h : a = b) : Ending.returned (.int .i64 a) = .returned (.int .i64 b) := by rw [h]
theorem val_int {a b : Int} (h : a = b) : Value.int .i64 a = .int .i64 b := by rw [h]
theorem grown_below {w w' : World} {g : Nat} (h : w.grownBy w' (some g)) (B : Nat) (hB : B ≤ g) (hs : B ≤ w.heap.size) : Below B w w' :=
  ⟨h.os, h.tape, h.output, h.size, fun k hk => h.block k (by omega) (by intro e; simp only [Option.some.injEq] at e; omega)⟩
theorem below_grown {w w' : World} {B : Nat} (h : Below B w w') (hB : w.heap.size ≤ B) (row : Option Nat) : w.grownBy w' row :=
  ⟨h.os, h.tape, h.output, h.size, fun k hk _ => h.block k (by omega)⟩
theorem bcell {W w1 : World} (hb : Below W.heap.size W w1) : (∀ b o, b < W.heap.size → w1.cell? ⟨b, o, none⟩ = W.cell? ⟨b, o, none⟩) ∧ (∀ b o, b < W.heap.size → w1.frozen? ⟨b, o, none⟩ = W.frozen? ⟨b, o, none⟩) :=
  ⟨fun b o h => hb.cell (p := ⟨b, o, none⟩) h, fun b o h => hb.frozen (p := ⟨b, o, none⟩) h⟩
theorem infoInt : (Try.prog.info? 3).map (fun i => (i.zero, i.size, i.bytes)) = some (some (.int .i64 0), 1, 8) := by kernel_rfl
theorem OwnI.setBelow {w : World} {B : Nat} {v : Value} {xs : List Int} (h : OwnI w B v xs) {p : Addr} (hp : p.block < B) (u : Value) : OwnI (w.setCell p u) B v xs := ownsRow_setCell_below h hp u
theorem OwnI.alloc {w : World} {B : Nat} {v : Value} {xs : List Int} (h : OwnI w B v xs) (o : Obj) : OwnI (w.alloc o) B v xs := h.below ((Below.refl _ _).alloc (Nat.le_refl _) o) (Nat.le_refl _)
theorem Below.mono' {B B' : Nat} {w w' : World} (h : Below B w w') (hB : B' ≤ B) : Below B' w w' := h.mono hB
/-- a block that holds two cells -/
def Box2 (w : World) (b : Nat) (u v : Value) : Prop := b < w.heap.size ∧ w.cell? ⟨b, 0, none⟩ = some u ∧ w.cell? ⟨b, 1, none⟩ = some v
theorem Box2.below {w w' : World} {b : Nat} {u v : Value} (h : Box2 w b u v) (hb : Below w.heap.size w w') : Box2 w' b u v :=
  ⟨Nat.lt_of_lt_of_le h.1 hb.size, (hb.cell (p := ⟨b, 0, none⟩) h.1).trans h.2.1, (hb.cell (p := ⟨b, 1, none⟩) h.1).trans h.2.2⟩
theorem Box2.new (w : World) (u v : Value) (t : TypeId) : Box2 (w.alloc (.cells #[u, v] t)) w.heap.size u v :=
  ⟨by simp, by simp, by simp⟩
theorem Box2.kept {w w' : World} {b : Nat} {u v : Value} {row : Option Nat} (h : Box2 w b u v) (hg : w.grownBy w' row) (hne : some b ≠ row) : Box2 w' b u v :=
  ⟨Nat.lt_of_lt_of_le h.1 hg.size, hg.cell h.2.1 hne, hg.cell h.2.2 hne⟩
theorem OwnI.lt {w : World} {B : Nat} {v : Value} {xs : List Int} (h : OwnI w B v xs) : ∀ b, v.ownBlock = some b → B ≤ b ∧ b < w.heap.size := World.ownsRow.lt h
theorem OwnI.cut {w : World} {B : Nat} {v : Value} {xs : List Int} (h : OwnI w B v xs) {U : Nat} (hU : w.heap.size ≤ U) : ∀ b, v.ownBlock = some b → B ≤ b ∧ b < U := fun b e => ⟨(h.lt b e).1, Nat.lt_of_lt_of_le (h.lt b e).2 hU⟩
/-- a block of two cells that may be written -/
def Var2 (w : World) (b : Nat) (u v : Value) : Prop := Box2 w b u v ∧ w.frozen? ⟨b, 0, none⟩ = false ∧ w.frozen? ⟨b, 1, none⟩ = false
theorem Var2.below {w w' : World} {b : Nat} {u v : Value} (h : Var2 w b u v) (hb : Below w.heap.size w w') : Var2 w' b u v :=
  ⟨h.1.below hb, (hb.frozen (p := ⟨b, 0, none⟩) h.1.1).trans h.2.1, (hb.frozen (p := ⟨b, 1, none⟩) h.1.1).trans h.2.2⟩
theorem Var2.new (w : World) (u v : Value) (t : TypeId) : Var2 (w.alloc (.cells #[u, v] t)) w.heap.size u v :=
  ⟨Box2.new w u v t, by simp, by simp⟩
theorem Var2.alloc {w : World} {b : Nat} {u v : Value} (h : Var2 w b u v) (o : Obj) : Var2 (w.alloc o) b u v := h.below ((Below.refl _ _).alloc (Nat.le_refl _) o)
theorem Var2.kept {w w' : World} {b : Nat} {u v : Value} {row : Option Nat} (h : Var2 w b u v) (hg : w.grownBy w' row) (hne : some b ≠ row) : Var2 w' b u v :=
  ⟨h.1.kept hg hne, (World.frozen?_of_block (w := w) (a := ⟨b, 0, none⟩) (hg.block b h.1.1 hne)).trans h.2.1, (World.frozen?_of_block (w := w) (a := ⟨b, 1, none⟩) (hg.block b h.1.1 hne)).trans h.2.2⟩
theorem Var2.set {w : World} {b : Nat} {u v : Value} (h : Var2 w b u v) (u' v' : Value) : Var2 ((w.setCell ⟨b, 0, none⟩ u').setCell ⟨b, 1, none⟩ v') b u' v' := by
  refine ⟨⟨by simpa using h.1.1, ?_, ?_⟩, by simpa using h.2.1, by simpa using h.2.2⟩
  · rw [World.cell?_setCell_other _ _ _ _ (by simp), World.cell?_setCell_same _ _ _ h.1.2.1]
  · rw [World.cell?_setCell_same _ _ _ (u := v) (by rw [World.cell?_setCell_other _ _ _ _ (by simp)]; exact h.1.2.2)]
theorem grown_set (w : World) (p : Addr) (u : Value) : w.grownBy (w.setCell p u) (some p.block) :=
  ⟨rfl, rfl, rfl, by simp, fun k hk hn => Below.heap_setCell w p u k (fun e => hn (by rw [e]))⟩
theorem Var2.set1 {w : World} {b : Nat} {u v : Value} (h : Var2 w b u v) (v' : Value) : Var2 (w.setCell ⟨b, 1, none⟩ v') b u v' := by
  refine ⟨⟨by simpa using h.1.1, ?_, ?_⟩, by simpa using h.2.1, by simpa using h.2.2⟩
  · rw [World.cell?_setCell_other _ _ _ _ (by simp)]; exact h.1.2.1
  · rw [World.cell?_setCell_same _ _ _ h.1.2.2]
theorem Box2.set {w : World} {b : Nat} {u v : Value} (h : Box2 w b u v) {p : Addr} (x : Value) (hne : b ≠ p.block) : Box2 (w.setCell p x) b u v :=
  h.kept (grown_set w p x) (by simpa using hne)
theorem Var2.other {w : World} {b : Nat} {u v : Value} (h : Var2 w b u v) {p : Addr} (x : Value) (hne : b ≠ p.block) : Var2 (w.setCell p x) b u v :=
  h.kept (grown_set w p x) (by simpa using hne)
theorem ne_own {v : Value} {b : Nat} (h : ∀ c, v.ownBlock = some c → c ≠ b) : some b ≠ v.ownBlock := fun e => h b e.symm rfl
theorem grown_alloc_set {w w1 : World} {r : Option Nat} {o : Obj} (h : (w.alloc o).grownBy w1 r) : w.grownBy w1 r :=
  ⟨h.os, h.tape, h.output, by have := h.size; simp at this; omega, fun k hk hn => (h.block k (by simp; omega) hn).trans (Below.heap_alloc w o k hk)⟩
theorem grown_trans {w w1 w2 : World} {r : Option Nat} (h1 : w.grownBy w1 r) (h2 : w1.grownBy w2 r) : w.grownBy w2 r :=
  ⟨h2.os.trans h1.os, h2.tape.trans h1.tape, h2.output.trans h1.output, Nat.le_trans h1.size h2.size, fun k hk hn => (h2.block k (by have := h1.size; omega) hn).trans (h1.block k hk hn)⟩
theorem OwnI.nil (w : World) (B : Nat) : OwnI w B (.slice none 0 0) [] := World.ownsRow_nil _ _ _ _
theorem below_of_grown {w w' : World} {v : Value} {B : Nat} (hg : w.grownBy w' v.ownBlock) (hB : ∀ b, v.ownBlock = some b → B ≤ b) (hs : B ≤ w.heap.size) : Below B w w' :=
  ⟨hg.os, hg.tape, hg.output, hg.size, fun k hk => hg.block k (by omega) (fun e => by have := hB k e.symm; omega)⟩

def inB (n lo hi : Int) : Bool := decide (lo ≤ n) && decide (n ≤ hi)
theorem inB_iff {n lo hi : Int} : inB n lo hi = true ↔ lo ≤ n ∧ n ≤ hi := by simp [inB]
theorem inB_no {n lo hi : Int} : inB n lo hi = false ↔ n < lo ∨ hi < n := by
  rw [← Bool.not_eq_true, inB_iff]
  omega

theorem OwnI.capLe {w : World} {B n cap : Nat} {a : Option Addr} {xs : List Int} (h : OwnI w B (.slice a n cap) xs) : n ≤ cap := by
  rcases h.2 with ⟨e, _⟩ | ⟨g, cap', cur, e, _, _, hc, _⟩
  · simp only [Value.slice.injEq] at e
    omega
  · simp only [Value.slice.injEq] at e
    omega
theorem Rd.take {w : World} {a : Option Addr} {xs : List Int} (h : Rd w a xs) (k : Nat) : Rd w a (xs.take k) :=
  ⟨Nat.le_trans (by rw [List.length_take]; exact Nat.min_le_right _ _) h.len, fun j hj => by
    have hj' : j < xs.length ∧ j < k := by rw [List.length_take] at hj; omega
    obtain ⟨b, off, e, hl, hc⟩ := h.cell j hj'.1
    refine ⟨b, off, e, hl, hc.trans ?_⟩
    simp [nth, List.getD_eq_getElem?_getD, List.getElem?_take, hj'.2]⟩

theorem wrap64_small (n : Int) (h0 : -9223372036854775808 ≤ n) (h1 : n ≤ 9223372036854775807) : IntKind.i64.wrap n = n := by
  simp only [IntKind.wrap, IntKind.bits, IntKind.signed]
  simp
  omega
theorem i64_wrap (n : Int) : IntKind.i64.wrap n = wrap64 n := IntWalk.i64_left n
theorem ofInt_i64 (a : Nat) (ha : a < 9223372036854775808) : (BitVec.ofInt 64 (a : Int)).toNat = a := by
  simp
  omega
theorem and_nat (a b : Nat) (ha : a < 9223372036854775808) (hb : b < 9223372036854775808) : bits .and .i64 (a : Int) (b : Int) = ((a &&& b : Nat) : Int) := by
  have hx : a &&& b < 2 ^ 63 := Nat.and_lt_two_pow _ (by omega)
  show IntKind.i64.wrap ((BitVec.ofInt 64 (a : Int) &&& BitVec.ofInt 64 (b : Int)).toNat : Int) = _
  rw [BitVec.toNat_and, ofInt_i64 a ha, ofInt_i64 b hb, wrap64_small _ (by omega) (by omega)]
theorem or_nat (a b : Nat) (ha : a < 9223372036854775808) (hb : b < 9223372036854775808) : bits .or .i64 (a : Int) (b : Int) = ((a ||| b : Nat) : Int) := by
  have hx : a ||| b < 2 ^ 63 := Nat.or_lt_two_pow (by omega) (by omega)
  show IntKind.i64.wrap ((BitVec.ofInt 64 (a : Int) ||| BitVec.ofInt 64 (b : Int)).toNat : Int) = _
  rw [BitVec.toNat_or, ofInt_i64 a ha, ofInt_i64 b hb, wrap64_small _ (by omega) (by omega)]
/-- a set without the elements of another one -/
def sub (a b : Nat) : Nat := a ^^^ (a &&& b)
theorem testBit_sub (a b i : Nat) : (sub a b).testBit i = (a.testBit i && !b.testBit i) := by
  simp [sub, Nat.testBit_xor, Nat.testBit_and]
  cases a.testBit i <;> cases b.testBit i <;> rfl
theorem sub_lt {a b n : Nat} (h : a < 2 ^ n) : sub a b < 2 ^ n := by
  unfold sub
  exact Nat.xor_lt_two_pow h (by rw [Nat.and_comm]; exact Nat.and_lt_two_pow _ h)
theorem sub_nat (a b : Nat) (ha : a < 9223372036854775808) (hb : b < 9223372036854775808) : bits .andNot .i64 (a : Int) (b : Int) = ((sub a b : Nat) : Int) := by
  have hs : sub a b < 2 ^ 63 := sub_lt (by omega)
  show IntKind.i64.wrap ((BitVec.ofInt 64 (a : Int) &&& ~~~BitVec.ofInt 64 (b : Int)).toNat : Int) = _
  have e : (BitVec.ofInt 64 (a : Int) &&& ~~~BitVec.ofInt 64 (b : Int)).toNat = sub a b := by
    apply Nat.eq_of_testBit_eq
    intro i
    rw [BitVec.testBit_toNat, BitVec.getLsbD_and, BitVec.getLsbD_not, testBit_sub, ← BitVec.testBit_toNat, ← BitVec.testBit_toNat, ofInt_i64 a ha, ofInt_i64 b hb]
    by_cases hi : i < 64
    · simp [hi]
    · have : a.testBit i = false := Nat.testBit_lt_two_pow (Nat.lt_of_lt_of_le (by omega : a < 2 ^ 64) (Nat.pow_le_pow_right (by omega) (by omega)))
      simp [this]
  rw [e, wrap64_small _ (by omega) (by omega)]
theorem shr_nat (s i : Nat) (hs : s < 9223372036854775808) : (s : Int) / (2 ^ min i 64) = ((s >>> i : Nat) : Int) := by
  rw [Nat.shiftRight_eq_div_pow]
  by_cases h : i ≤ 64
  · rw [Nat.min_eq_left h]
    simp
  · rw [Nat.min_eq_right (by omega)]
    have : 2 ^ 64 ≤ 2 ^ i := Nat.pow_le_pow_right (by omega) (by omega)
    rw [Nat.div_eq_of_lt (by omega)]
    omega
theorem bit_and (s i : Nat) (hs : s < 9223372036854775808) : (bits .and .i64 ((s >>> i : Nat) : Int) 1 == 1) = s.testBit i := by
  have h1 : s >>> i ≤ s := by rw [Nat.shiftRight_eq_div_pow]; exact Nat.div_le_self _ _
  have := and_nat (s >>> i) 1 (by omega) (by omega)
  rw [show ((1 : Nat) : Int) = 1 from rfl] at this
  rw [this, Nat.testBit, Nat.and_one_is_mod, Nat.and_comm, Nat.and_one_is_mod]
  rcases Nat.mod_two_eq_zero_or_one (s >>> i) with h | h <;> simp [h]
theorem bit_mod (s i : Nat) : (((s >>> i : Nat) : Int) % 2 == 1) = s.testBit i := by
  rw [Nat.testBit, Nat.and_comm, Nat.and_one_is_mod]
  rcases Nat.mod_two_eq_zero_or_one (s >>> i) with h | h
  · have h2 : ((s >>> i : Nat) : Int) % 2 = 0 := by omega
    rw [h2, h]; rfl
  · have h2 : ((s >>> i : Nat) : Int) % 2 = 1 := by omega
    rw [h2, h]; rfl
theorem bit_tmod (s i : Nat) : (((s >>> i : Nat) : Int).tmod 2 == 1) = s.testBit i := by
  rw [Int.tmod_eq_emod_of_nonneg (Int.natCast_nonneg _), bit_mod]
/-- is i in the set s? -/
def hasB (s i : Int) : Bool := s.toNat.testBit i.toNat
theorem has_and {s i : Int} (h0 : 0 ≤ s) (h1 : s ≤ 9223372036854775807) (hi : 0 ≤ i) : (bits .and .i64 (s / 2 ^ min i.toNat 64) 1 == 1) = hasB s i := by
  obtain ⟨S, rfl⟩ := Int.eq_ofNat_of_zero_le h0
  rw [shr_nat S _ (by omega), bit_and S _ (by omega)]
  rfl
theorem has_mod {s i : Int} (h0 : 0 ≤ s) (h1 : s ≤ 9223372036854775807) (hi : 0 ≤ i) : ((s / 2 ^ min i.toNat 64).tmod 2 == 1) = hasB s i := by
  obtain ⟨S, rfl⟩ := Int.eq_ofNat_of_zero_le h0
  rw [shr_nat S _ (by omega), bit_tmod S]
  rfl
theorem pow_w {k : Nat} (h : k < 62) : wrap64 (2 ^ k) = ((2 ^ k : Nat) : Int) := by
  have : 2 ^ k ≤ 2 ^ 61 := Nat.pow_le_pow_right (by omega) (by omega)
  rw [show ((2:Int) ^ k) = ((2 ^ k : Nat) : Int) by simp]
  generalize hp : 2 ^ k = p at *
  exact IntWalk.wrap64_in _ ⟨by omega, by omega⟩
theorem or_bit {b k : Nat} (hb : b < 4611686018427387904) (hk : k < 62) : bits .or .i64 (b : Int) (wrap64 (2 ^ k)) = ((b ||| 2 ^ k : Nat) : Int) := by
  rw [pow_w hk]
  have : 2 ^ k ≤ 2 ^ 61 := Nat.pow_le_pow_right (by omega) (by omega)
  exact or_nat _ _ (by omega) (by omega)
theorem or_i {a b : Int} (ha : 0 ≤ a) (ha1 : a < 9223372036854775808) (hb : 0 ≤ b) (hb1 : b < 9223372036854775808) : bits .or .i64 a b = ((a.toNat ||| b.toNat : Nat) : Int) := by
  obtain ⟨A, rfl⟩ := Int.eq_ofNat_of_zero_le ha
  obtain ⟨B, rfl⟩ := Int.eq_ofNat_of_zero_le hb
  exact or_nat A B (by omega) (by omega)
theorem sub_i {a b : Int} (ha : 0 ≤ a) (ha1 : a < 9223372036854775808) (hb : 0 ≤ b) (hb1 : b < 9223372036854775808) : bits .andNot .i64 a b = ((sub a.toNat b.toNat : Nat) : Int) := by
  obtain ⟨A, rfl⟩ := Int.eq_ofNat_of_zero_le ha
  obtain ⟨B, rfl⟩ := Int.eq_ofNat_of_zero_le hb
  exact sub_nat A B (by omega) (by omega)
theorem or_lt {a b n : Nat} (ha : a < 2 ^ n) (hb : b < 2 ^ n) : a ||| b < 2 ^ n := Nat.or_lt_two_pow ha hb
theorem two_lt {k n : Nat} (h : k < n) : 2 ^ k < 2 ^ n := Nat.pow_lt_pow_right (by omega) h
theorem testBit_two (k i : Nat) : (2 ^ k).testBit i = decide (k = i) := Nat.testBit_two_pow

/-- is the number at i behind an ascent? -/
def riseB (xs : List Int) (i : Nat) : Bool := decide (0 < i) && decide (nth xs (i-1) < nth xs i)
theorem riseB_iff {xs : List Int} {i : Nat} : riseB xs i = true ↔ 0 < i ∧ nth xs (i-1) < nth xs i := by simp [riseB]
/-- the ascents among the first k numbers -/
def ascTo (xs : List Int) : Nat → Nat
  | 0 => 0
  | k+1 => ascTo xs k + (if riseB xs k then 1 else 0)
theorem ascTo_le (xs : List Int) : ∀ k, ascTo xs k ≤ k - 1
  | 0 => by simp [ascTo]
  | 1 => by simp [ascTo, riseB]
  | k+2 => by
    have := ascTo_le xs (k+1)
    rw [ascTo]; split <;> omega
theorem ascTo_yes {xs : List Int} {k : Nat} (h : riseB xs k = true) : ascTo xs (k+1) = ascTo xs k + 1 := by simp [ascTo, h]
theorem ascTo_no {xs : List Int} {k : Nat} (h : riseB xs k = false) : ascTo xs (k+1) = ascTo xs k := by simp [ascTo, h]
/-- the greatest number that may stand at k -/
def bndTo (xs : List Int) (k : Nat) : Int := if k = 0 then 0 else (ascTo xs k : Int) + 1
theorem bndTo_zero (xs : List Int) : bndTo xs 0 = 0 := rfl
theorem bndTo_pos (xs : List Int) {k : Nat} (h : 0 < k) : bndTo xs k = (ascTo xs k : Int) + 1 := by simp [bndTo]; omega
theorem bndTo_le (xs : List Int) (k : Nat) : 0 ≤ bndTo xs k ∧ bndTo xs k ≤ (k : Int) := by
  have := ascTo_le xs k
  unfold bndTo
  split <;> omega
def ascOk (xs : List Int) (k : Nat) : Bool := inB (nth xs k) 0 (bndTo xs k)
/-- is it an ascent sequence? -/
def ascB (xs : List Int) : Bool := decide (xs.length ≤ 12) && (List.range xs.length).all (ascOk xs)
theorem ascB_iff {xs : List Int} : ascB xs = true ↔ xs.length ≤ 12 ∧ ∀ k, k < xs.length → ascOk xs k = true := by simp [ascB]
theorem ascB_no {xs : List Int} {k : Nat} (hk : k < xs.length) (h : ascOk xs k = false) : ascB xs = false := by
  rw [← Bool.not_eq_true, ascB_iff]
  rintro ⟨_, h2⟩
  rw [h2 k hk] at h
  cases h
theorem ascB_long {xs : List Int} (h : ¬ xs.length ≤ 12) : ascB xs = false := by
  rw [← Bool.not_eq_true, ascB_iff]
  exact fun h2 => h h2.1
theorem ascB_nth {xs : List Int} (h : ascB xs = true) {k : Nat} (hk : k < xs.length) : 0 ≤ nth xs k ∧ nth xs k ≤ bndTo xs k := inB_iff.1 ((ascB_iff.1 h).2 k hk)
theorem ascB_small {xs : List Int} (h : ascB xs = true) {k : Nat} (hk : k < xs.length) : 0 ≤ nth xs k ∧ nth xs k ≤ 11 := by
  have h1 := ascB_nth h hk
  have h2 := bndTo_le xs k
  have h3 := (ascB_iff.1 h).1
  omega
/-- how far the list has come -/
def clLast (xs : List Int) (k : Nat) : Int := if k = 0 then -1 else nth xs (k-1)
def clAsc (xs : List Int) (k : Nat) : Int := if k = 0 then -1 else (ascTo xs k : Int)
theorem clAsc_bnd (xs : List Int) (k : Nat) : clAsc xs k + 1 = bndTo xs k := by unfold clAsc bndTo; split <;> omega
theorem clLast_succ (xs : List Int) (k : Nat) : clLast xs (k+1) = nth xs k := by simp [clLast]
/-- the climb with one more number -/
def byA (last asc n : Int) : Int := if last < n then asc + 1 else asc
theorem clAsc_succ {xs : List Int} {k : Nat} (h0 : 0 ≤ nth xs k) : byA (clLast xs k) (clAsc xs k) (nth xs k) = clAsc xs (k+1) := by
  by_cases hk : k = 0
  · subst hk
    have : (-1 : Int) < nth xs 0 := by omega
    simp [byA, clLast, clAsc, ascTo, riseB, this]
  · simp only [byA, clLast, clAsc, hk, if_false, ascTo, Nat.succ_ne_zero, riseB]
    by_cases h : nth xs (k-1) < nth xs k
    · simp [h, show 0 < k by omega]
    · simp [h]
theorem clAsc_le (xs : List Int) (k : Nat) : -1 ≤ clAsc xs k ∧ clAsc xs k < max (k : Int) 0 + 1 := by
  have := ascTo_le xs k
  unfold clAsc
  split <;> omega
theorem clAsc_lt (xs : List Int) (k : Nat) : -1 ≤ clAsc xs k ∧ clAsc xs k ≤ (k : Int) := by
  have := ascTo_le xs k
  unfold clAsc
  split <;> omega

/-- the list of f 0, .., f (k - 1) -/
def fmap (f : Nat → Int) (k : Nat) : List Int := (List.range k).map f
theorem fmap_len (f : Nat → Int) (k : Nat) : (fmap f k).length = k := by simp [fmap]
theorem fmap_nth (f : Nat → Int) {k i : Nat} (h : i < k) : nth (fmap f k) i = f i := by simp [nth, fmap, h]
theorem fmap_succ (f : Nat → Int) (k : Nat) : fmap f (k+1) = fmap f k ++ [f k] := by simp [fmap, List.range_succ]
/-- one store more into a row that was made -/
theorem fill_step (f : Nat → Int) (m k : Nat) (h : k < m) :
    ((fmap f k ++ List.replicate (m - k) (0:Int)).map (Value.int .i64)).set k (.int .i64 (f k)) = (fmap f (k+1) ++ List.replicate (m - (k+1)) (0:Int)).map (Value.int .i64) := by
  apply List.ext_getElem?
  intro j
  rw [List.getElem?_set]
  by_cases hj : k = j
  · subst hj
    rw [if_pos rfl, if_pos (by simp [fmap_len]; omega), List.getElem?_map, List.getElem?_append_left (by rw [fmap_len]; omega)]
    simp [fmap]
  · simp only [hj, if_false, List.getElem?_map, List.getElem?_append, fmap_len, List.getElem?_replicate]
    by_cases h1 : j < k
    · have h2 : j < k + 1 := by omega
      simp [h1, h2, fmap]
    · have h2 : ¬ j < k + 1 := by omega
      have h3 : j - k < m - k ↔ j - (k+1) < m - (k+1) := by omega
      simp [h1, h2, h3]
theorem fill_end (f : Nat → Int) (m : Nat) : fmap f m ++ List.replicate (m - m) (0:Int) = fmap f m := by simp
/-- the row that a make of m integers has made -/
theorem made_ints {w1 : World} {B : Nat} {v : Value} {m : Nat} (f : Nat → Int) (h : w1.ownsRow B 3 1 v m (madeCells (Value.int .i64 0).cells (m * 1)).toList) :
    w1.ownsRow B 3 1 v m ((fmap f 0 ++ List.replicate (m - 0) (0:Int)).map (Value.int .i64)) := by
  simpa [Value.cells, toList_madeCells_one, fmap] using h

def allB (xs : List Int) (lo hi : Int) : Bool := xs.all (fun x => inB x lo hi)
theorem allB_take (xs : List Int) (lo hi : Int) (k : Nat) (h : k < xs.length) : allB (xs.take (k+1)) lo hi = (allB (xs.take k) lo hi && inB (nth xs k) lo hi) := by
  simp only [allB]
  rw [List.take_succ_eq_append_getElem h, List.all_append]
  simp [nth, h]
theorem allB_false {xs : List Int} {lo hi : Int} {k : Nat} (h : k < xs.length) (h1 : inB (nth xs k) lo hi = false) : allB xs lo hi = false := by
  simp only [allB, List.all_eq_false]
  exact ⟨xs[k], List.getElem_mem h, by simpa [nth, h] using h1⟩
theorem allB_nth {xs : List Int} {lo hi : Int} (h : allB xs lo hi = true) {k : Nat} (hk : k < xs.length) : lo ≤ nth xs k ∧ nth xs k ≤ hi := by
  simp only [allB, List.all_eq_true] at h
  have := inB_iff.1 (h _ (List.getElem_mem hk))
  rwa [← nth_get xs k hk] at this

/-- is it a relation? -/
def relB (n : Int) (xs : List Int) : Bool := inB n 0 10 && decide ((xs.length : Int) = n) && allB xs 0 (2 ^ n.toNat - 1)
theorem relB_iff {n : Int} {xs : List Int} : relB n xs = true ↔ (0 ≤ n ∧ n ≤ 10) ∧ (xs.length : Int) = n ∧ allB xs 0 (2 ^ n.toNat - 1) = true := by
  simp [relB, inB_iff, and_assoc]
theorem pow10 {n : Nat} (h : n ≤ 10) : (1 : Int) ≤ 2 ^ n ∧ (2 : Int) ^ n ≤ 1024 := by
  have h1 : 2 ^ n ≤ 2 ^ 10 := Nat.pow_le_pow_right (by omega) h
  have h2 : 1 ≤ 2 ^ n := Nat.one_le_two_pow
  have h3 : ((2 ^ n : Nat) : Int) = (2 : Int) ^ n := by simp
  omega
theorem full_eq {n : Int} (h0 : 0 ≤ n) (h1 : n ≤ 10) : wrap64 (wrap64 (2 ^ n.toNat) - 1) = 2 ^ n.toNat - 1 := by
  have h2 := pow10 (n := n.toNat) (by omega)
  generalize (2 : Int) ^ n.toNat = p at *
  rw [IntWalk.wrap64_in p ⟨by omega, by omega⟩, IntWalk.wrap64_in _ ⟨by omega, by omega⟩]
structure RelP (n : Int) (xs : List Int) : Prop where
  n0 : 0 ≤ n
  n1 : n ≤ 10
  len : (xs.length : Int) = n
  pos : ∀ k, k < xs.length → 0 ≤ nth xs k
  lt : ∀ k, k < xs.length → nth xs k < 2 ^ xs.length
  small : ∀ k, k < xs.length → nth xs k < 1024
theorem relB_p {n : Int} {xs : List Int} (h : relB n xs = true) : RelP n xs := by
  obtain ⟨⟨h0, h1⟩, h2, h3⟩ := relB_iff.1 h
  have e : n.toNat = xs.length := by omega
  rw [e] at h3
  have hp := pow10 (n := xs.length) (by omega)
  exact ⟨h0, h1, h2, fun k hk => (allB_nth h3 hk).1, fun k hk => by have := (allB_nth h3 hk).2; omega, fun k hk => by have := (allB_nth h3 hk).2; omega⟩

/-- one step of the closing: what is above k goes to i, if k is above i -/
def clStep (xs : List Int) (k i : Nat) : List Int := if hasB (nth xs i) k then xs.set i (((nth xs i).toNat ||| (nth xs k).toNat : Nat) : Int) else xs
def clRow (xs : List Int) (k : Nat) : Nat → List Int
  | 0 => xs
  | i+1 => clStep (clRow xs k i) k i
def clAll (xs : List Int) : Nat → List Int
  | 0 => xs
  | k+1 => clRow (clAll xs k) k xs.length
theorem clStep_len (xs : List Int) (k i : Nat) : (clStep xs k i).length = xs.length := by
  unfold clStep; split <;> simp
theorem clRow_len (xs : List Int) (k : Nat) : ∀ i, (clRow xs k i).length = xs.length
  | 0 => rfl
  | i+1 => by rw [clRow, clStep_len, clRow_len xs k i]
theorem clAll_len (xs : List Int) : ∀ k, (clAll xs k).length = xs.length
  | 0 => rfl
  | k+1 => by rw [clAll, clRow_len, clAll_len xs k]
/-- all numbers of a list are sets below 1024 -/
def Small (xs : List Int) : Prop := ∀ k, k < xs.length → 0 ≤ nth xs k ∧ nth xs k < 1024
theorem nth_set {xs : List Int} {i j : Nat} {x : Int} (hi : i < xs.length) : nth (xs.set i x) j = if i = j then x else nth xs j := by
  simp only [nth, List.getD_eq_getElem?_getD, List.getElem?_set]
  by_cases h : i = j
  · subst h; simp [hi]
  · simp [h]
theorem clStep_small {xs : List Int} (h : Small xs) {k i : Nat} (hk : k < xs.length) (hi : i < xs.length) : Small (clStep xs k i) := by
  unfold clStep
  split
  · intro j hj
    rw [nth_set hi]
    have h1 := h i hi
    have h2 := h k hk
    split
    · have : (nth xs i).toNat ||| (nth xs k).toNat < 2 ^ 10 := or_lt (by omega) (by omega)
      omega
    · exact h j (by simpa using hj)
  · exact h
theorem clRow_small {xs : List Int} (h : Small xs) {k : Nat} (hk : k < xs.length) : ∀ i, i ≤ xs.length → Small (clRow xs k i)
  | 0, _ => h
  | i+1, hi => clStep_small (clRow_small h hk i (by omega)) (by rw [clRow_len]; exact hk) (by rw [clRow_len]; omega)
theorem clAll_small {xs : List Int} (h : Small xs) : ∀ k, k ≤ xs.length → Small (clAll xs k)
  | 0, _ => h
  | k+1, hk => clRow_small (clAll_small h k (by omega)) (by rw [clAll_len]; omega) _ (by rw [clAll_len]; omega)
theorem RelP.sm {n : Int} {xs : List Int} (h : RelP n xs) : Small xs := fun k hk => ⟨h.pos k hk, h.small k hk⟩
theorem set_ints (xs : List Int) (i : Nat) (x : Int) : (xs.map (Value.int .i64)).set i (.int .i64 x) = (xs.set i x).map (Value.int .i64) := by
  rw [List.map_set]
/-- a store into an owned row -/
theorem OwnI.put {w : World} {B g n cap : Nat} {xs : List Int} (h : OwnI w B (.slice (some ⟨g, 0, none⟩) n cap) xs) (hn : n = xs.length) (i : Nat) (x : Int) :
    OwnI (w.setCell ⟨g, i, none⟩ (.int .i64 x)) B (.slice (some ⟨g, 0, none⟩) n cap) (xs.set i x) ∧ w.grownBy (w.setCell ⟨g, i, none⟩ (.int .i64 x)) (some g) := by
  subst hn
  have hst := World.ownsRow.stored h i (.int .i64 x)
  rw [set_ints] at hst
  refine ⟨?_, hst.2⟩
  unfold OwnI
  rw [List.length_set]
  exact hst.1
theorem OwnI.at' {w : World} {B g n cap : Nat} {xs : List Int} (h : OwnI w B (.slice (some ⟨g, 0, none⟩) n cap) xs) (hn : n = xs.length) {i : Nat} (hi : i < xs.length) :
    w.cell? ⟨g, i, none⟩ = some (.int .i64 (nth xs i)) ∧ w.frozen? ⟨g, i, none⟩ = false := by
  subst hn
  refine ⟨?_, World.ownsRow.frozenAt h i⟩
  rw [World.ownsRow.cellAt h i (by omega)]
  simp [nth, hi]
theorem OwnI.head {w : World} {B n cap : Nat} {a : Option Addr} {xs : List Int} (h : OwnI w B (.slice a n cap) xs) (hp : 0 < xs.length) : ∃ g, a = some ⟨g, 0, none⟩ ∧ B ≤ g ∧ g < w.heap.size := by
  rcases h.2 with ⟨e, h0⟩ | ⟨g, c, cur, e, hb, hg, _⟩
  · omega
  · simp only [Value.slice.injEq] at e
    exact ⟨g, e.1, hb, (Array.getElem?_eq_some_iff.1 hg).1⟩
def cloN (n : Int) (xs : List Int) : Int := if relB n xs then n else 0
def cloL (n : Int) (xs : List Int) : List Int := if relB n xs then clAll xs xs.length else []
theorem cloL_len (n : Int) (xs : List Int) : (cloL n xs).length ≤ 1048576 := by
  unfold cloL
  split
  · rename_i h
    have hp := relB_p h
    have := hp.len
    have := hp.n1
    rw [clAll_len]
    omega
  · simp

/-- how long a slice is, a measure -/
def sliceLen : Value → Nat
  | .slice _ n _ => n
  | _ => 0
theorem OwnI.sliceLen {w : World} {B : Nat} {v : Value} {xs : List Int} (h : OwnI w B v xs) : sliceLen v = xs.length := by
  obtain ⟨a, c, rfl⟩ := h.form
  rfl
def canB (xs : List Int) (i : Nat) : Bool := decide (nth xs i < bndTo xs i)
/-- the last of the first k places at which the number may rise -/
def lastR (xs : List Int) : Nat → Option Nat
  | 0 => none
  | k+1 => if canB xs k then some k else lastR xs k
theorem lastR_lt {xs : List Int} {i : Nat} : ∀ {k : Nat}, lastR xs k = some i → i < k
  | 0, h => by cases h
  | k+1, h => by
    rw [lastR] at h
    split at h
    · cases h; omega
    · have := lastR_lt h; omega
/-- the list with a greater number at i, and zeros behind it -/
def nxList (xs : List Int) (i : Nat) : List Int := (xs.take i ++ [nth xs i + 1]) ++ List.replicate (xs.length - (i + 1)) 0
theorem nxList_len {xs : List Int} {i : Nat} (h : i < xs.length) : (nxList xs i).length = xs.length := by simp [nxList]; omega
def nxB (xs : List Int) : Bool := ascB xs && (lastR xs xs.length).isSome
def nxL (xs : List Int) : List Int := if ascB xs then (match lastR xs xs.length with | some i => nxList xs i | none => []) else []
theorem nxL_len (xs : List Int) : (nxL xs).length ≤ 1048576 := by
  unfold nxL
  split
  · rename_i h
    have := (ascB_iff.1 h).1
    split
    · rename_i i hi
      rw [nxList_len (lastR_lt hi)]; omega
    · simp
  · simp
theorem nx_row {xs : List Int} {i : Nat} (h : i < xs.length) : ((xs.take i ++ (List.replicate xs.length (0 : Int)).drop i).set i (nth xs i + 1)) = nxList xs i := by
  have hl : (xs.take i).length = i := by simp; omega
  rw [List.set_append_right _ _ (by omega), hl, Nat.sub_self, List.drop_replicate, show xs.length - i = (xs.length - (i+1)) + 1 by omega, List.replicate_succ]
  simp [nxList]
/-- what the program holds behind k numbers -/
def NxAt (w : World) (B : Nat) (xs : List Int) (v : Value) : Option Nat → Prop
  | none => v = .slice none 0 0
  | some i => ∃ g c, v = .slice (some ⟨g, 0, none⟩) xs.length c ∧ OwnI w B (.slice (some ⟨g, 0, none⟩) xs.length c) (nxList xs i)
theorem NxAt.setBelow {w : World} {B : Nat} {xs : List Int} {v : Value} {p : Addr} (hp : p.block < B) (u : Value) : ∀ {o : Option Nat}, NxAt w B xs v o → NxAt (w.setCell p u) B xs v o
  | none, h => h
  | some _, ⟨g, c, e, ho⟩ => ⟨g, c, e, ho.setBelow hp u⟩
theorem NxAt.below {w w' : World} {B B' : Nat} {xs : List Int} {v : Value} : ∀ {o : Option Nat}, NxAt w B xs v o → Below B' w w' → w.heap.size ≤ B' → NxAt w' B xs v o
  | none, h, _, _ => h
  | some _, ⟨g, c, e, ho⟩, hb, hB => ⟨g, c, e, ho.below hb hB⟩

/-- a row of a list of rows -/
def rowL (xss : List (List Int)) (k : Nat) : List Int := xss.getD k []
/-- how many numbers the first k rows have -/
def totS (xss : List (List Int)) : Nat → Nat
  | 0 => 0
  | k+1 => totS xss k + (rowL xss k).length
theorem totS_mono {xss : List (List Int)} {j : Nat} : ∀ {k : Nat}, j ≤ k → totS xss j ≤ totS xss k
  | 0, h => by obtain rfl : j = 0 := by omega
               exact Nat.le_refl _
  | k+1, h => by
    by_cases e : j = k + 1
    · rw [e]; exact Nat.le_refl _
    · have := totS_mono (xss := xss) (j := j) (k := k) (by omega)
      simp only [totS]; omega
theorem row_tot {xss : List (List Int)} {k n : Nat} (h : k < n) : (rowL xss k).length ≤ totS xss n := by
  have := totS_mono (xss := xss) (j := k + 1) (k := n) (by omega)
  simp only [totS] at this
  omega
/-- the slice of slices at an address reads as a list of rows -/
structure RdS (w : World) (a : Option Addr) (xss : List (List Int)) : Prop where
  len : xss.length ≤ 9223372036854775807
  row : ∀ k, k < xss.length → ∃ b off a' cap', a = some ⟨b, off, none⟩ ∧ b < w.heap.size ∧ w.cell? ⟨b, off + k, none⟩ = some (.slice a' (rowL xss k).length cap') ∧ Rd w a' (rowL xss k)
theorem RdS.below {w w' : World} {a : Option Addr} {xss : List (List Int)} (h : RdS w a xss) (hb : Below w.heap.size w w') : RdS w' a xss :=
  ⟨h.len, fun k hk => by
    obtain ⟨b, off, a', cap', e, hl, hc, hr⟩ := h.row k hk
    exact ⟨b, off, a', cap', e, Nat.lt_of_lt_of_le hl hb.size, (hb.cell (World.block_lt_of_cell? _ _ hc)).trans hc, hr.below hb⟩⟩
theorem ownsRow_bel {w w' : World} {B B' : Nat} {e : TypeId} {size : Nat} {v : Value} {n : Nat} {xs : List Value} (h : w.ownsRow B e size v n xs) (hb : Below B' w w') (hB : w.heap.size ≤ B') : w'.ownsRow B e size v n xs := by
  refine ⟨h.1, ?_⟩
  rcases h.2 with hn | ⟨g, cap, cur, e, hb', hg, rest⟩
  · exact .inl hn
  · refine .inr ⟨g, cap, cur, e, hb', ?_, rest⟩
    rw [hb.block g (by have := (Array.getElem?_eq_some_iff.1 hg).1; omega)]
    exact hg
def valAt (vl : List Value) (k : Nat) : Value := vl.getD k (.slice none 0 0)
/-- a slice of slices that owns its rows: the outer block is g -/
structure OwnS (w : World) (B g : Nat) (vl : List Value) (xss : List (List Int)) : Prop where
  lo : B ≤ g
  hi : g < w.heap.size
  max : xss.length ≤ 9223372036854775807
  cell : ∀ k, k < xss.length → w.cell? ⟨g, k, none⟩ = some (valAt vl k)
  row : ∀ k, k < xss.length → OwnI w (g + 1) (valAt vl k) (rowL xss k)
  apart : ∀ j k, j < k → k < xss.length → ∀ c d, (valAt vl j).ownBlock = some c → (valAt vl k).ownBlock = some d → c < d
theorem OwnS.rd {w : World} {B g : Nat} {vl : List Value} {xss : List (List Int)} (h : OwnS w B g vl xss) : RdS w (some ⟨g, 0, none⟩) xss :=
  ⟨h.max, fun k hk => by
    have h1 := h.row k hk
    have h2 := h.cell k hk
    obtain ⟨a', cap', e⟩ := h1.form
    rw [e] at h1 h2
    exact ⟨g, 0, a', cap', rfl, h.hi, by rw [Nat.zero_add]; exact h2, h1.rd⟩⟩
theorem OwnS.below {w w' : World} {B B' g : Nat} {vl : List Value} {xss : List (List Int)} (h : OwnS w B g vl xss) (hb : Below B' w w') (hB : w.heap.size ≤ B') : OwnS w' B g vl xss :=
  ⟨h.lo, Nat.lt_of_lt_of_le h.hi hb.size, h.max, fun k hk => (hb.cell (p := ⟨g, k, none⟩) (Nat.lt_of_lt_of_le h.hi hB)).trans (h.cell k hk), fun k hk => (h.row k hk).below hb hB, h.apart⟩
theorem OwnS.cut {w : World} {B g : Nat} {vl : List Value} {xss : List (List Int)} (h : OwnS w B g vl xss) {U : Nat} (hU : w.heap.size ≤ U) : B ≤ g ∧ ∀ k, k < xss.length → ∀ c, (valAt vl k).ownBlock = some c → g < c ∧ c < U :=
  ⟨h.lo, fun k hk c e => by have := (h.row k hk).lt c e; omega⟩
/-- only blocks of a stretch are written -/
structure TouchS (lo hi : Nat) (w w' : World) : Prop where
  os : w'.os = w.os
  tape : w'.tape = w.tape
  output : w'.output = w.output
  size : w.heap.size ≤ w'.heap.size
  block : ∀ k, k < w.heap.size → k < lo ∨ hi ≤ k → w'.heap[k]? = w.heap[k]?
theorem TouchS.refl (lo hi : Nat) (w : World) : TouchS lo hi w w := ⟨rfl, rfl, rfl, Nat.le_refl _, fun _ _ _ => rfl⟩
theorem TouchS.step {lo hi : Nat} {w w1 w2 : World} {r : Option Nat} (h : TouchS lo hi w w1) (hg : w1.grownBy w2 r) (hr : ∀ c, r = some c → lo ≤ c ∧ c < hi) : TouchS lo hi w w2 :=
  ⟨hg.os.trans h.os, hg.tape.trans h.tape, hg.output.trans h.output, Nat.le_trans h.size hg.size, fun k hk hn => (hg.block k (by have := h.size; omega) (fun e => by have := hr k e.symm; omega)).trans (h.block k hk hn)⟩
theorem TouchS.below {lo hi B : Nat} {w w' : World} (h : TouchS lo hi w w') (hB : B ≤ lo) (hs : B ≤ w.heap.size) : Below B w w' :=
  ⟨h.os, h.tape, h.output, h.size, fun k hk => h.block k (by omega) (by omega)⟩
theorem TouchS.other {lo hi : Nat} {w w' : World} (h : TouchS lo hi w w') (b : Nat) (hb : b < lo ∨ hi ≤ b) (hs : b < w.heap.size) : ∀ r, w'.heap[b]? = w.heap[b]? ∧ (r = some b → True) := fun _ => ⟨h.block b hs hb, fun _ => trivial⟩
theorem Box2.touch {lo hi : Nat} {w w' : World} {b : Nat} {u v : Value} (h : Box2 w b u v) (ht : TouchS lo hi w w') (hb : b < lo ∨ hi ≤ b) : Box2 w' b u v :=
  ⟨Nat.lt_of_lt_of_le h.1 ht.size, (World.cell?_of_block (w := w) (a := ⟨b, 0, none⟩) (ht.block b h.1 hb)).trans h.2.1, (World.cell?_of_block (w := w) (a := ⟨b, 1, none⟩) (ht.block b h.1 hb)).trans h.2.2⟩
theorem OwnI.touch {lo hi : Nat} {w w' : World} {B : Nat} {v : Value} {xs : List Int} (h : OwnI w B v xs) (ht : TouchS lo hi w w') (hb : ∀ c, v.ownBlock = some c → c < lo ∨ hi ≤ c) : OwnI w' B v xs := by
  refine ⟨h.1, ?_⟩
  rcases h.2 with hn | ⟨g, cap, cur, e, hb', hg, rest⟩
  · exact .inl hn
  · refine .inr ⟨g, cap, cur, e, hb', ?_, rest⟩
    rw [ht.block g (Array.getElem?_eq_some_iff.1 hg).1 (hb g (by rw [e]; rfl))]
    exact hg

theorem nth_snoc_lt {ys : List Int} {x : Int} {j : Nat} (h : j < ys.length) : nth (ys ++ [x]) j = nth ys j := by
  simp [nth, List.getD_eq_getElem?_getD, List.getElem?_append_left h]
theorem nth_snoc_at (ys : List Int) (x : Int) : nth (ys ++ [x]) ys.length = x := by
  simp [nth, List.getD_eq_getElem?_getD]
/-- the sum of the first k values -/
def sumTo (f : Nat → Nat) : Nat → Nat
  | 0 => 0
  | k+1 => sumTo f k + f k
theorem sumTo_congr {f g : Nat → Nat} : ∀ {k : Nat}, (∀ j, j < k → f j = g j) → sumTo f k = sumTo g k
  | 0, _ => rfl
  | k+1, h => by rw [sumTo, sumTo, sumTo_congr (fun j hj => h j (by omega)), h k (by omega)]
theorem sumTo_le {f : Nat → Nat} {c : Nat} : ∀ {k : Nat}, (∀ j, j < k → f j ≤ c) → sumTo f k ≤ k * c
  | 0, _ => by simp [sumTo]
  | k+1, h => by
    have h1 := sumTo_le (f := f) (c := c) (k := k) (fun j hj => h j (by omega))
    have h2 := h k (by omega)
    rw [sumTo, Nat.succ_mul]; omega
theorem sumTo_mono {f : Nat → Nat} {j : Nat} : ∀ {k : Nat}, j ≤ k → sumTo f j ≤ sumTo f k
  | 0, h => by obtain rfl : j = 0 := by omega
               exact Nat.le_refl _
  | k+1, h => by
    by_cases e : j = k + 1
    · rw [e]; exact Nat.le_refl _
    · have := sumTo_mono (f := f) (j := j) (k := k) (by omega)
      rw [sumTo]; omega
/-- the first k of so many lists of rows, one after the other -/
def catTo (f : Nat → List (List Int)) : Nat → List (List Int)
  | 0 => []
  | k+1 => catTo f k ++ f k
theorem catTo_len (f : Nat → List (List Int)) : ∀ k, (catTo f k).length = sumTo (fun x => (f x).length) k
  | 0 => rfl
  | k+1 => by rw [catTo, sumTo, List.length_append, catTo_len f k]
theorem mem_catTo {f : Nat → List (List Int)} {r : List Int} : ∀ {k : Nat}, r ∈ catTo f k → ∃ j, j < k ∧ r ∈ f j
  | 0, h => by simp [catTo] at h
  | k+1, h => by
    rcases List.mem_append.1 h with h | h
    · obtain ⟨j, h1, h2⟩ := mem_catTo h
      exact ⟨j, by omega, h2⟩
    · exact ⟨k, by omega, h⟩

/-- a list of rows that has been made: the outer row is at v, and each row is one of its own -/
structure RowsO (w : World) (B : Nat) (v : Value) (vl : List Value) (xss : List (List Int)) : Prop where
  own : w.ownsRow B 22 1 v xss.length vl
  row : ∀ k, k < xss.length → OwnI w B (valAt vl k) (rowL xss k)
  apart : ∀ k, k < xss.length → ∀ c, (valAt vl k).ownBlock = some c → v.ownBlock ≠ some c
theorem RowsO.vlen {w : World} {B : Nat} {v : Value} {vl : List Value} {xss : List (List Int)} (h : RowsO w B v vl xss) : vl.length = xss.length := by
  have := h.own.1
  omega
theorem RowsO.form {w : World} {B : Nat} {v : Value} {vl : List Value} {xss : List (List Int)} (h : RowsO w B v vl xss) : ∃ a cap, v = .slice a xss.length cap := by
  rcases h.own.2 with ⟨rfl, h0⟩ | ⟨g, cap, cur, rfl, _⟩
  · exact ⟨none, 0, by rw [h0]⟩
  · exact ⟨_, _, rfl⟩
theorem RowsO.below {w w' : World} {B B' : Nat} {v : Value} {vl : List Value} {xss : List (List Int)} (h : RowsO w B v vl xss) (hb : Below B' w w') (hB : w.heap.size ≤ B') : RowsO w' B v vl xss :=
  ⟨ownsRow_bel h.own hb hB, fun k hk => (h.row k hk).below hb hB, h.apart⟩
theorem RowsO.mono {w : World} {B B' : Nat} {v : Value} {vl : List Value} {xss : List (List Int)} (h : RowsO w B v vl xss) (hB : B' ≤ B) : RowsO w B' v vl xss := by
  refine ⟨⟨h.own.1, ?_⟩, fun k hk => (h.row k hk).mono hB, h.apart⟩
  rcases h.own.2 with hn | ⟨g, cap, cur, e, hb, rest⟩
  · exact .inl hn
  · exact .inr ⟨g, cap, cur, e, by omega, rest⟩
theorem RowsO.nil (w : World) (B : Nat) : RowsO w B (.slice none 0 0) [] [] :=
  ⟨World.ownsRow_nil _ _ _ _, fun k hk => by simp at hk, fun k hk => by simp at hk⟩
theorem RowsO.lt {w : World} {B : Nat} {v : Value} {vl : List Value} {xss : List (List Int)} (h : RowsO w B v vl xss) : ∀ b, v.ownBlock = some b → B ≤ b ∧ b < w.heap.size := World.ownsRow.lt h.own
theorem valAt_get {vl : List Value} {k : Nat} (h : k < vl.length) : vl[k]? = some (valAt vl k) := by
  rw [valAt, List.getD_eq_getElem?_getD, List.getElem?_eq_getElem h]; rfl
theorem RowsO.rd {w : World} {B n cap : Nat} {a : Option Addr} {vl : List Value} {xss : List (List Int)} (h : RowsO w B (.slice a n cap) vl xss) : RdS w a xss := by
  have hvl := h.vlen
  rcases h.own.2 with ⟨e, h0⟩ | ⟨g, cap', cur, e, hb, hg, hn, hm, hs, ht⟩
  · exact ⟨by omega, fun k hk => by omega⟩
  · simp only [Value.slice.injEq] at e
    obtain ⟨rfl, rfl, rfl⟩ := e
    refine ⟨by unfold maxLen at hm; omega, fun k hk => ?_⟩
    have h1 := World.ownsRow.cellAt h.own k (by omega)
    have h2 := h.row k hk
    obtain ⟨a', c', e'⟩ := h2.form
    rw [e'] at h2
    refine ⟨g, 0, a', c', rfl, (Array.getElem?_eq_some_iff.1 hg).1, ?_, h2.rd⟩
    rw [Nat.zero_add, h1, valAt_get (by omega), e']
/-- one list of rows after the other: only the outer row of the first one has been written -/
theorem RowsO.cat {w w' : World} {B C : Nat} {v v2 v' : Value} {vl vl2 : List Value} {xss yss : List (List Int)} (h : RowsO w B v vl xss) (h2 : RowsO w C v2 vl2 yss) (hBC : B ≤ C) (hvC : ∀ c, v.ownBlock = some c → c < C)
    (ho : w'.ownsRow B 22 1 v' (xss.length + yss.length) (vl ++ vl2)) (hg : w.grownBy w' v.ownBlock) (hv' : v'.ownBlock = v.ownBlock ∨ v'.ownBlock = some w.heap.size) : RowsO w' B v' (vl ++ vl2) (xss ++ yss) := by
  have hl := h.vlen
  have hl2 := h2.vlen
  have e1 : ∀ k, k < xss.length → valAt (vl ++ vl2) k = valAt vl k ∧ rowL (xss ++ yss) k = rowL xss k := by
    intro k hk
    exact ⟨by rw [valAt, valAt, List.getD_eq_getElem?_getD, List.getD_eq_getElem?_getD, List.getElem?_append_left (by omega)], by rw [rowL, rowL, List.getD_eq_getElem?_getD, List.getD_eq_getElem?_getD, List.getElem?_append_left (by omega)]⟩
  have e2 : ∀ k, xss.length ≤ k → valAt (vl ++ vl2) k = valAt vl2 (k - xss.length) ∧ rowL (xss ++ yss) k = rowL yss (k - xss.length) := by
    intro k hk
    exact ⟨by rw [valAt, valAt, List.getD_eq_getElem?_getD, List.getD_eq_getElem?_getD, List.getElem?_append_right (by omega), hl], by rw [rowL, rowL, List.getD_eq_getElem?_getD, List.getD_eq_getElem?_getD, List.getElem?_append_right (by omega)]⟩
  have hne : ∀ k, k < (xss ++ yss).length → OwnI w B (valAt (vl ++ vl2) k) (rowL (xss ++ yss) k) ∧ ∀ c, (valAt (vl ++ vl2) k).ownBlock = some c → v.ownBlock ≠ some c ∧ c < w.heap.size := by
    intro k hk
    rw [List.length_append] at hk
    by_cases e : k < xss.length
    · rw [(e1 k e).1, (e1 k e).2]
      exact ⟨h.row k e, fun c hc => ⟨h.apart k e c hc, ((h.row k e).lt c hc).2⟩⟩
    · rw [(e2 k (by omega)).1, (e2 k (by omega)).2]
      have h3 := h2.row (k - xss.length) (by omega)
      refine ⟨h3.mono hBC, fun c hc => ⟨fun hh => ?_, (h3.lt c hc).2⟩⟩
      have := hvC c hh
      have := (h3.lt c hc).1
      omega
  refine ⟨by rw [List.length_append]; exact ho, fun k hk => ?_, fun k hk c hc => ?_⟩
  · have ⟨h3, h4⟩ := hne k hk
    refine h3.kept hg ?_
    cases hc : (valAt (vl ++ vl2) k).ownBlock with
    | none => exact .inl rfl
    | some c => exact .inr (fun hh => (h4 c hc).1 hh.symm)
  · have ⟨_, h4⟩ := hne k hk
    have ⟨h5, h6⟩ := h4 c hc
    rcases hv' with hv' | hv'
    · rw [hv']; exact h5
    · rw [hv']; intro hh; simp only [Option.some.injEq] at hh; omega
theorem infoSlice : (Try.prog.info? 22).map (fun i => (i.zero, i.size, i.bytes)) = some (some (.slice none 0 0), 1, 24) := by kernel_rfl

def elemB (i n : Int) : Bool := decide (0 ≤ i) && decide (i < n)
theorem elemB_iff {i n : Int} : elemB i n = true ↔ 0 ≤ i ∧ i < n := by simp [elemB]
theorem elemB_no {i n : Int} : elemB i n = false ↔ i < 0 ∨ n ≤ i := by
  rw [← Bool.not_eq_true, elemB_iff]; omega

def okE (n : Int) (xs : List Int) (i : Int) : Bool := relB n xs && elemB i n
def okB (n : Int) (xs : List Int) (i j : Int) : Bool := relB n xs && elemB i n && elemB j n
def betF (n : Int) (xs : List Int) (i j : Int) : Bool := okB n xs i j && hasB (nth xs i.toNat) j
theorem ret_bb {a b c d : Bool} (h : a = b) (h2 : c = d) : Ending.returned (.tuple #[.bool a, .bool c]) = .returned (.tuple #[.bool b, .bool d]) := by rw [h, h2]
theorem ret_ib {a b : Int} {c d : Bool} (h : a = b) (h2 : c = d) : Ending.returned (.tuple #[.int .i64 a, .bool c]) = .returned (.tuple #[.int .i64 b, .bool d]) := by rw [h, h2]

/-- the last number, or 0 -/
def lastN (ys : List Int) : Nat := (nth ys (ys.length - 1)).toNat
/-- the stairs that go on a stair by d numbers -/
def stS : Nat → List Int → List (List Int)
  | 0, ys => [ys]
  | d+1, ys => catTo (fun j => stS d (ys ++ [((lastN ys + j : Nat) : Int)])) (ys.length + 1 - lastN ys)
theorem stS_len : ∀ (d : Nat) (ys : List Int), ys.length + d ≤ 6 → (stS d ys).length ≤ 7 ^ d
  | 0, ys, _ => by simp [stS]
  | d+1, ys, h => by
    rw [stS, catTo_len]
    have h1 := sumTo_le (f := fun j => (stS d (ys ++ [((lastN ys + j : Nat) : Int)])).length) (c := 7 ^ d) (k := ys.length + 1 - lastN ys) (fun j _ => stS_len d _ (by simp; omega))
    have h2 := Nat.mul_le_mul (show ys.length + 1 - lastN ys ≤ 7 by omega) (Nat.le_refl (7 ^ d))
    rw [Nat.pow_succ]; omega
theorem seven_le {d : Nat} (h : d ≤ 6) : 7 ^ d ≤ 117649 := Nat.le_trans (Nat.pow_le_pow_right (by omega) h) (by decide)
/-- the stairs that are a stair and one number more -/
def extS (ys : List Int) : List (List Int) := catTo (fun j => [ys ++ [((lastN ys + j : Nat) : Int)]]) (ys.length + 1 - lastN ys)
theorem catTo_flat {f : Nat → List (List Int)} {g : List Int → List (List Int)} : ∀ k, (catTo f k).flatMap g = catTo (fun j => (f j).flatMap g) k
  | 0 => rfl
  | k+1 => by rw [catTo, catTo, List.flatMap_append, catTo_flat k]
theorem stS_succ : ∀ (d : Nat) (ys : List Int), stS (d+1) ys = (stS d ys).flatMap extS
  | 0, ys => by simp [stS, extS]
  | d+1, ys => by
    rw [stS, stS, catTo_flat]
    congr 1
    funext j
    exact stS_succ d _
def stV (i : Nat) (r : List Int) : Bool := r.length == i && (List.range i).all fun j => decide (0 ≤ nth r j) && decide (nth r j ≤ (j : Int))
theorem stS_ok : ∀ n : Fin 7, (stS n.val []).all (stV n.val) = true := by decide +kernel
theorem stS_tot : ∀ n : Fin 7, (stS n.val []).length + totS (stS n.val []) (stS n.val []).length ≤ 1048576 := by decide +kernel
theorem stS_cut : ∀ n : Fin 7, ∀ k : Fin 133, (((stS n.val []).take k.val).flatMap extS).length ≤ 1048576 := by decide +kernel
theorem stS_small : ∀ n : Fin 7, (stS n.val []).length ≤ 132 := by decide +kernel
def ssB (n : Int) : Bool := inB n 0 6
def ssL (n : Int) : List (List Int) := if ssB n then stS n.toNat [] else []
theorem ssL_len (n : Int) : (ssL n).length + totS (ssL n) (ssL n).length ≤ 1048576 := by
  unfold ssL
  split
  · rename_i h
    have := inB_iff.1 h
    exact stS_tot ⟨n.toNat, by omega⟩
  · simp [totS]

/-- the marks k, k + 1, .. -/
def marks (k : Int) (n : Nat) : List Int := (List.range n).map (fun (j : Nat) => k + (j : Int))
theorem marks_len (k : Int) (n : Nat) : (marks k n).length = n := by simp [marks]
theorem marks_nth {k : Int} {n j : Nat} (h : j < n) : nth (marks k n) j = k + j := by
  simp [nth, marks, h]
theorem mark_step (k : Int) (xs : List Int) (j : Nat) (h : j < xs.length) :
    ((marks k j ++ xs.drop j).map (Value.int .i64)).set j (.int .i64 (k + j)) = (marks k (j+1) ++ xs.drop (j+1)).map (Value.int .i64) := by
  apply List.ext_getElem?
  intro i
  rw [List.getElem?_set]
  by_cases hj : j = i
  · subst hj
    rw [if_pos rfl, if_pos (by simp [marks_len]; omega), List.getElem?_map, List.getElem?_append_left (by rw [marks_len]; omega)]
    simp [marks]
  · simp only [hj, if_false, List.getElem?_map, List.getElem?_append, marks_len, List.getElem?_drop]
    by_cases h1 : i < j
    · have h2 : i < j + 1 := by omega
      simp [h1, h2, marks]
    · have h2 : ¬ i < j + 1 := by omega
      have h3 : j + (i - j) = j + 1 + (i - (j + 1)) := by omega
      simp [h1, h2, h3]
theorem own_ne {v u : Value} (h : ∀ c, v.ownBlock = some c → u.ownBlock ≠ some c) : v.ownBlock = none ∨ v.ownBlock ≠ u.ownBlock := by
  cases hv : v.ownBlock with
  | none => exact .inl rfl
  | some c => exact .inr (fun e => h c hv e.symm)

/-- rows that have been made, each in a block of its own -/
structure RowsP (w : World) (B : Nat) (v : Value) (vl : List Value) (xss : List (List Int)) : Prop where
  o : RowsO w B v vl xss
  pair : ∀ j k, j < k → k < xss.length → ∀ c, (valAt vl j).ownBlock = some c → (valAt vl k).ownBlock ≠ some c
theorem RowsP.below {w w' : World} {B B' : Nat} {v : Value} {vl : List Value} {xss : List (List Int)} (h : RowsP w B v vl xss) (hb : Below B' w w') (hB : w.heap.size ≤ B') : RowsP w' B v vl xss := ⟨h.o.below hb hB, h.pair⟩
theorem RowsP.mono {w : World} {B B' : Nat} {v : Value} {vl : List Value} {xss : List (List Int)} (h : RowsP w B v vl xss) (hB : B' ≤ B) : RowsP w B' v vl xss := ⟨h.o.mono hB, h.pair⟩
theorem RowsP.nil (w : World) (B : Nat) : RowsP w B (.slice none 0 0) [] [] := ⟨RowsO.nil w B, fun j k _ hk => by simp at hk⟩
/-- one row in a new outer row -/
theorem RowsO.one {w : World} {B n c : Nat} {a : Option Addr} {r : List Int} (h : OwnI w B (.slice a n c) r) (hB : B ≤ w.heap.size) : RowsO (w.alloc (.cells #[.slice a n c] 22)) B (.slice (some ⟨w.heap.size, 0, none⟩) 1 1) [.slice a n c] [r] := by
  refine ⟨World.ownsRow_lit w #[.slice a n c] 1 hB (by unfold maxLen; omega) rfl, fun k hk => ?_, fun k hk d hd => ?_⟩
  · obtain rfl : k = 0 := by simp at hk; omega
    exact h.alloc _
  · obtain rfl : k = 0 := by simp at hk; omega
    have := (h.lt d hd).2
    simp only [Value.ownBlock, ne_eq, Option.some.injEq]
    omega
theorem RowsP.one {w : World} {B n c : Nat} {a : Option Addr} {r : List Int} (h : OwnI w B (.slice a n c) r) (hB : B ≤ w.heap.size) : RowsP (w.alloc (.cells #[.slice a n c] 22)) B (.slice (some ⟨w.heap.size, 0, none⟩) 1 1) [.slice a n c] [r] :=
  ⟨RowsO.one h hB, fun j k h1 h2 => by simp at h2; omega⟩
theorem RowsP.cat {w w' : World} {B C : Nat} {v v2 v' : Value} {vl vl2 : List Value} {xss yss : List (List Int)} (h : RowsP w B v vl xss) (h2 : RowsP w C v2 vl2 yss) (hBC : B ≤ C) (hvC : ∀ c, v.ownBlock = some c → c < C) (hrC : ∀ k, k < xss.length → ∀ c, (valAt vl k).ownBlock = some c → c < C)
    (ho : w'.ownsRow B 22 1 v' (xss.length + yss.length) (vl ++ vl2)) (hg : w.grownBy w' v.ownBlock) (hv' : v'.ownBlock = v.ownBlock ∨ v'.ownBlock = some w.heap.size) : RowsP w' B v' (vl ++ vl2) (xss ++ yss) := by
  refine ⟨h.o.cat h2.o hBC hvC ho hg hv', fun j k hjk hk c hc => ?_⟩
  have hl := h.o.vlen
  have hl2 := h2.o.vlen
  rw [List.length_append] at hk
  have e1 : ∀ k, k < xss.length → valAt (vl ++ vl2) k = valAt vl k := fun k hk => by rw [valAt, valAt, List.getD_eq_getElem?_getD, List.getD_eq_getElem?_getD, List.getElem?_append_left (by omega)]
  have e2 : ∀ k, xss.length ≤ k → valAt (vl ++ vl2) k = valAt vl2 (k - xss.length) := fun k hk => by rw [valAt, valAt, List.getD_eq_getElem?_getD, List.getD_eq_getElem?_getD, List.getElem?_append_right (by omega), hl]
  by_cases hk2 : k < xss.length
  · rw [e1 k hk2]
    rw [e1 j (by omega)] at hc
    exact h.pair j k hjk hk2 c hc
  · rw [e2 k (by omega)]
    by_cases hj2 : j < xss.length
    · rw [e1 j hj2] at hc
      have h3 := hrC j hj2 c hc
      intro h4
      have := ((h2.o.row (k - xss.length) (by omega)).lt c h4).1
      omega
    · rw [e2 j (by omega)] at hc
      exact h2.pair (j - xss.length) (k - xss.length) (by omega) (by omega) c hc
theorem RowsP.blk {w : World} {B : Nat} {v : Value} {vl : List Value} {xss : List (List Int)} (h : RowsP w B v vl xss) : (∀ c, v.ownBlock = some c → c < w.heap.size) ∧ ∀ k, k < xss.length → ∀ c, (valAt vl k).ownBlock = some c → c < w.heap.size :=
  ⟨fun c e => (h.o.lt c e).2, fun k hk c e => ((h.o.row k hk).lt c e).2⟩
/-- what the rows hold when they have been marked -/
def mkS (xss : List (List Int)) (k : Int) : List (List Int) := (List.range xss.length).map fun j => marks (k + ((totS xss j : Nat) : Int)) (rowL xss j).length
theorem mkS_len (xss : List (List Int)) (k : Int) : (mkS xss k).length = xss.length := by simp [mkS]
theorem mkS_row {xss : List (List Int)} {k : Int} {j : Nat} (h : j < xss.length) : rowL (mkS xss k) j = marks (k + ((totS xss j : Nat) : Int)) (rowL xss j).length := by
  simp [mkS, rowL, h]

/-- a list and those behind it, one after the other -/
def laSeq : Nat → List Int → List (List Int)
  | 0, _ => []
  | f+1, xs => xs :: if nxB xs then laSeq f (nxL xs) else []
def laEnd : Nat → List Int → Bool
  | 0, _ => false
  | f+1, xs => if nxB xs then laEnd f (nxL xs) else true
theorem laSeq_pos {f : Nat} {xs : List Int} (h : laEnd f xs = true) : 0 < (laSeq f xs).length := by
  cases f with
  | zero => cases h
  | succ f => simp [laSeq]
theorem laSeq_zero {f : Nat} {xs : List Int} (h : laEnd f xs = true) : rowL (laSeq f xs) 0 = xs := by
  cases f with
  | zero => cases h
  | succ f => simp [laSeq, rowL]
theorem laSeq_next : ∀ {f : Nat} {xs : List Int}, laEnd f xs = true → ∀ k, k < (laSeq f xs).length → nxB (rowL (laSeq f xs) k) = decide (k + 1 < (laSeq f xs).length) ∧ (k + 1 < (laSeq f xs).length → nxL (rowL (laSeq f xs) k) = rowL (laSeq f xs) (k+1))
  | f+1, xs, h, k, hk => by
    cases hb : nxB xs
    · have e : laSeq (f+1) xs = [xs] := by simp [laSeq, hb]
      rw [e] at hk ⊢
      obtain rfl : k = 0 := by simpa using hk
      exact ⟨by simp [rowL, hb], fun h2 => by simp at h2⟩
    · have h2 : laEnd f (nxL xs) = true := by simpa [laEnd, hb] using h
      have e : laSeq (f+1) xs = xs :: laSeq f (nxL xs) := by simp [laSeq, hb]
      have hp := laSeq_pos h2
      rw [e] at hk ⊢
      rw [List.length_cons] at hk ⊢
      cases k with
      | zero =>
        refine ⟨?_, fun _ => ?_⟩
        · rw [show rowL (xs :: laSeq f (nxL xs)) 0 = xs from rfl, hb]; simp; omega
        · rw [show rowL (xs :: laSeq f (nxL xs)) (0+1) = rowL (laSeq f (nxL xs)) 0 from rfl, laSeq_zero h2]; rfl
      | succ k =>
        have ih := laSeq_next h2 k (by omega)
        rw [show rowL (xs :: laSeq f (nxL xs)) (k+1) = rowL (laSeq f (nxL xs)) k from rfl, show rowL (xs :: laSeq f (nxL xs)) (k+1+1) = rowL (laSeq f (nxL xs)) (k+1) from rfl]
        refine ⟨?_, fun h3 => ih.2 (by omega)⟩
        rw [ih.1, decide_eq_decide]; omega
/-- the ascent sequences of n numbers, in order -/
def laS (n : Nat) : List (List Int) := laSeq 1014 (List.replicate n 0)
theorem laS_end : ∀ n : Fin 8, laEnd 1014 (List.replicate n.val 0) = true := by decide +kernel
theorem laS_ok : ∀ n : Fin 8, (laS n.val).all (fun r => r.length == n.val && ascB r) = true := by decide +kernel
theorem laS_tot : ∀ n : Fin 8, (laS n.val).length + totS (laS n.val) (laS n.val).length ≤ 1048576 := by decide +kernel
theorem laS_len : ∀ n : Fin 8, (laS n.val).length ≤ 1014 := by decide +kernel
def laB (n : Int) : Bool := inB n 0 7
def laL (n : Int) : List (List Int) := if laB n then laS n.toNat else []
theorem laL_len (n : Int) : (laL n).length + totS (laL n) (laL n).length ≤ 1048576 := by
  unfold laL
  split
  · rename_i h
    have := inB_iff.1 h
    exact laS_tot ⟨n.toNat, by omega⟩
  · simp [totS]

/-- one row more at the end of rows that have been made -/
theorem push_row {ops : Array Oper} {rest : List Oper} {o : Oper} {a : Act} {Q : Exit → Act → World → Prop} (hgd : o.guard = none) (s x : Operand)
    (ho : o.op = .call { callee := .builtin .append, args := #[s, x], argTypes := #[31, 31] }) {wr : World} {B C n cp : Nat} {ar : Option Addr} {v : Value} {vl : List Value} {xss : List (List Int)} {r : List Int}
    (hs : a.eval s = v) (hro : RowsP wr B v vl xss) (hrow : OwnI wr C (.slice ar n cp) r) (hx : a.eval x = .slice (some ⟨wr.heap.size, 0, none⟩) 1 1) (h63 : xss.length ≤ 1048576) (hBC : B ≤ C) (hC : C ≤ wr.heap.size)
    (hvC : ∀ c, v.ownBlock = some c → c < C) (hrC : ∀ k, k < xss.length → ∀ c, (valAt vl k).ownBlock = some c → c < C)
    (h : ∀ v' w', RowsP w' B v' (vl ++ [.slice ar n cp]) (xss ++ [r]) → wr.grownBy w' v.ownBlock → wpList Try.prog ops Q rest (a.put o.dst v') w') :
    wpList Try.prog ops Q (o :: rest) a (wr.alloc (.cells #[.slice ar n cp] 22)) := by
  obtain ⟨j0, hj0, hy0, hy1, hy2⟩ := info_parts infoSlice
  have hone := RowsP.one hrow hC
  have b4 : Below wr.heap.size wr (wr.alloc (.cells #[.slice ar n cp] 22)) := (Below.refl _ _).alloc (Nat.le_refl _) _
  have hro4 := hro.below b4 (Nat.le_refl _)
  obtain ⟨av, cv, rfl⟩ := hro.o.form
  refine wpList_append_own_at _ hgd s x 31 ho B 22 j0 (.slice none 0 0) 1 24 Try.underlying31 hj0 hy0 hy1 hy2 rfl (by decide) (.slice av xss.length cv) xss.length vl hs hro4.o.own ⟨wr.heap.size, 0, none⟩ 1 1 [.slice ar n cp] hx rfl (cell_one_new _ _ _) (by intro u hu; simp at hu; subst hu; rfl) (by unfold maxLen; omega) (by omega) (by simp; omega) ?_
  intro v' w' ho2 hg _ hat
  exact h v' w' (hro4.cat hone hBC hvC hrC ho2 hg hat) (grown_alloc_set hg)

/-- what has been listed and the list that comes next -/
def LaAt (w : World) (B : Nat) (S : List (List Int)) (v u : Value) (k : Nat) : Prop :=
  ∃ vl, RowsP w B v vl (S.take k) ∧ (k < S.length → ∃ C, B ≤ C ∧ C ≤ w.heap.size ∧ OwnI w C u (rowL S k) ∧ (∀ c, v.ownBlock = some c → c < C) ∧ ∀ j, j < (S.take k).length → ∀ c, (valAt vl j).ownBlock = some c → c < C)
theorem take_snoc {S : List (List Int)} {k : Nat} (h : k < S.length) : S.take (k+1) = S.take k ++ [rowL S k] := by
  rw [List.take_succ_eq_append_getElem h, rowL, List.getD_eq_getElem?_getD, List.getElem?_eq_getElem h]
  rfl
theorem laS_row {N k : Nat} (hN : N ≤ 7) (hk : k < (laS N).length) : (rowL (laS N) k).length = N ∧ ascB (rowL (laS N) k) = true := by
  have h := List.all_eq_true.1 (laS_ok ⟨N, by omega⟩) (rowL (laS N) k) (by
    rw [rowL, List.getD_eq_getElem?_getD, List.getElem?_eq_getElem hk]
    exact List.getElem_mem hk)
  simpa using h

theorem lastR_of {xs : List Int} {i : Nat} (h : canB xs i = true) : ∀ {k : Nat}, i < k → (∀ t, i < t → t < k → canB xs t = false) → lastR xs k = some i
  | k+1, hk, hall => by
    rw [lastR]
    by_cases e : i = k
    · subst e; rw [if_pos h]
    · rw [if_neg (by rw [hall k (by omega) (by omega)]; simp)]
      exact lastR_of h (by omega) (fun t h1 h2 => hall t h1 (by omega))
theorem lastR_none {xs : List Int} : ∀ {k : Nat}, (∀ t, t < k → canB xs t = false) → lastR xs k = none
  | 0, _ => rfl
  | k+1, hall => by
    rw [lastR, if_neg (by rw [hall k (by omega)]; simp)]
    exact lastR_none (fun t h => hall t (by omega))
theorem canB_zero {xs : List Int} (h : ascB xs = true) (h0 : 0 < xs.length) : canB xs 0 = false := by
  have := (ascB_nth h h0).1
  rw [canB, bndTo_zero, decide_eq_false_iff_not]; omega

theorem wpList_append_none {P : Program} {w : World} {ops : Array Oper} {rest : List Oper} {o : Oper} {a : Act} {Q : Exit → Act → World → Prop} (hgd : o.guard = none) (s x : Operand) (t : TypeId)
    (ho : o.op = .call { callee := .builtin .append, args := #[s, x], argTypes := #[t, t] })
    (base : Nat) (e : TypeId) (i : TypeInfo) (size : Nat) (ht : P.underlying t = some (.slice e)) (hi : P.info? e = some i)
    (v : Value) (n c : Nat) (xs : List Value) (hs : a.eval s = v) (hown : w.ownsRow base e size v n xs) (hx : a.eval x = .slice none 0 c)
    (h : wpList P ops Q rest (a.put o.dst v) w) : wpList P ops Q (o :: rest) a w := by
  refine wpList_plain hgd fun K hK => ?_
  have hrun : (Builtin.append_ #[t, t] o.type #[v, .slice none 0 c]).run P w = .ok v w := by
    rcases hown.2 with ⟨rfl, rfl⟩ | ⟨g, cap, cur, rfl, _, _, hnc, _⟩
    · simp [Builtin.append_, run_underlying ht, sizeOf, typeInfo, hi, Builtin.lenOf, Builtin.firstCells]
    · simp [Builtin.append_, run_underlying ht, sizeOf, typeInfo, hi, Builtin.lenOf, Builtin.firstCells, hnc, storeCells]
  unfold Oper.wp
  simp [execOp, ho, resolve, invoke, builtin, hs, hx, hrun, Result.andThen]
  exact hK _ _ h
theorem rd_news {w : World} {ad : Addr} {xs : List Int} (hx : Rd w (some ad) xs) : ∀ j u, (xs.map (Value.int .i64))[j]? = some u → w.cell? (ad.add j) = some u := by
  intro j u hj
  rw [List.getElem?_map, Option.map_eq_some_iff] at hj
  obtain ⟨x, hx1, rfl⟩ := hj
  obtain ⟨hlt, e⟩ := List.getElem?_eq_some_iff.1 hx1
  obtain ⟨b, off, e1, _, hc⟩ := hx.cell j hlt
  simp only [Option.some.injEq] at e1
  subst e1
  rw [Addr.add_lit, hc, nth_get xs j hlt, e]
theorem ints_one (xs : List Int) : ∀ u ∈ xs.map (Value.int .i64), u.oneCell' = true := by
  intro u hu
  obtain ⟨x, _, rfl⟩ := List.mem_map.1 hu
  rfl

theorem l1Own_any (a : Option Addr) (xs : List Int) (cap : Nat) (w : World) (hx : Rd w a xs) (hn : xs.length ≤ 1048576) :
    Calls Try.prog 49 #[.slice a xs.length cap] w fun e w' => ∃ a' cap', e = .returned (.slice a' xs.length cap') ∧ OwnI w' w.heap.size (.slice a' xs.length cap') xs ∧ Below w.heap.size w w' := by
  obtain ⟨i0, hi, hz0, hz1, hz2⟩ := info_parts infoInt
  have hown : (w.alloc (.cells #[] 3)).ownsRow w.heap.size 3 1 (.slice (some ⟨w.heap.size, 0, none⟩) 0 0) 0 [] := World.ownsRow_lit w #[] 0 (Nat.le_refl _) (by simp [maxLen]) (by simp)
  cases a with
  | none =>
    have h0 : xs = [] := by
      rcases xs with _ | ⟨x, t⟩
      · rfl
      · obtain ⟨b, off, e, _⟩ := hx.cell 0 (by simp)
        cases e
    subst h0
    go_enter Try.func49, Try.ntmps49
    go_wp2_with (at_builtin; refine wpList_append_none rfl _ _ 22 rfl w.heap.size 3 i0 1 Try.underlying22 hi _ 0 _ [] rfl hown rfl ?_)
    go_wp2_with fail
    go_ret
    exact ⟨_, _, rfl, hown, (by repeat (first | exact Below.refl _ _ | assumption | refine Below.alloc ?_ (by first | exact Nat.le_refl _ | (simp only [World.size_alloc, World.size_setCell, World.size_drew]; omega) | omega) _ | refine Below.setCell ?_ (by first | exact Nat.le_refl _ | (simp only [World.size_alloc, World.size_setCell, World.size_drew]; omega) | omega) _ | refine Below.drew ?_))⟩
  | some ad =>
    have hx1 := hx.alloc (.cells #[] 3)
    go_enter Try.func49, Try.ntmps49
    go_wp2_with (at_builtin; refine wpList_append_own _ rfl _ _ 22 rfl w.heap.size 3 i0 (.int .i64 0) 1 8 Try.underlying22 hi hz0 hz1 hz2 rfl (by decide) _ 0 [] rfl hown ad xs.length cap (xs.map (Value.int .i64)) rfl (by simp) ?c1 ?c2 ?c3 ?c4 ?c5 ?_)
    case c1 => exact rd_news hx1
    case c2 => exact ints_one xs
    case c3 => unfold maxLen; omega
    case c4 => omega
    case c5 => simp
    · intro v' w1 hown' hgrow _
      try simp only [Nat.zero_add, List.nil_append] at hown'
      have hb : Below w.heap.size w w1 := ((Below.refl _ _).alloc (Nat.le_refl _) _).grown hgrow (by simp) (fun b e => by simp [Value.ownBlock] at e; omega)
      obtain ⟨a', cap', rfl⟩ := OwnI.form (xs := xs) hown'
      have HO := Lib.hid hown'
      clear hown' hgrow hown
      go_wp2_with fail
      go_ret
      exact ⟨a', cap', rfl, HO.out, hb⟩

theorem l1Own_take (a : Option Addr) (xs : List Int) (k cap : Nat) (w : World) (hx : Rd w a xs) (hk : k ≤ xs.length) (hn : k ≤ 1048576) :
    Calls Try.prog 49 #[.slice a k cap] w fun e w' => ∃ a' cap', e = .returned (.slice a' k cap') ∧ OwnI w' w.heap.size (.slice a' k cap') (xs.take k) ∧ Below w.heap.size w w' := by
  have hl : (xs.take k).length = k := by simp; omega
  have h := l1Own_any a (xs.take k) cap w (hx.take k) (by rw [hl]; exact hn)
  rw [hl] at h
  exact h

theorem asAscents_q (a : Option Addr) (xs : List Int) (n cap : Nat) (w : World) (hx : Rd w a xs) (hn : n ≤ xs.length) :
    Calls Try.prog 38 #[.slice a n cap] w fun e w' => e = .returned (.int .i64 (ascTo xs n : Nat)) ∧ ∃ m, w' = w.drewN m := by
  have hlen := hx.len
  have HA : Hid (∀ k, ascTo xs k ≤ k - 1) := ascTo_le xs
  go_enter Try.func38, Try.ntmps38
  go_wp2_with fail
  go_loopw [3, 4] (fun s i wr => ∃ k : Nat, 1 ≤ k ∧ k ≤ max 1 n ∧ i = .int .i64 k ∧ s = .int .i64 (ascTo xs k : Nat) ∧ ∃ m, wr = w.drewN m) (fun _ i _ => n + 1 - (intOf i).toNat)
  case atStart => exact ⟨1, by omega, by omega, rfl, rfl, 0, rfl⟩
  case round =>
    obtain ⟨k, hk1, hk, rfl, rfl, m0, rfl⟩ := hrel
    by_cases hlt : k < n
    · obtain ⟨b, off, rfl, hbl, hc⟩ := hx.cell k (by omega)
      obtain ⟨b', off', e', hbl', hc'⟩ := hx.cell (k-1) (by omega)
      simp only [Option.some.injEq, Addr.mk.injEq, and_true] at e'
      obtain ⟨rfl, rfl⟩ := e'
      have hak := HA.out k
      have hcast : IntKind.i64.wrap ((k : Int) - 1) = ((k - 1 : Nat) : Int) := by rw [i64_wrap, IntWalk.wrap64_in _ ⟨by omega, by omega⟩]; omega
      cases hr : riseB xs k
      · have H1 := Lib.hid (ascTo_no hr)
        have hge : ¬ nth xs (k-1) < nth xs k := by
          intro h; rw [riseB_iff.2 ⟨by omega, h⟩] at hr; cases hr
        clear hr
        go_wp2_with fail
        go_quiet (fail)
        go_wp2_with fail
        go_roundw
        case rel => exact ⟨k + 1, by omega, by omega, by go_num, by rw [H1.out], _, rfl⟩
        case measure => simp [intOf]; omega
      · have H1 := Lib.hid (ascTo_yes hr)
        have hge : nth xs (k-1) < nth xs k := (riseB_iff.1 hr).2
        clear hr
        go_wp2_with fail
        go_quiet (fail)
        go_wp2_with fail
        go_roundw
        case rel => exact ⟨k + 1, by omega, by omega, by go_num, by rw [H1.out]; go_num, _, rfl⟩
        case measure => simp [intOf]; omega
    · have HE : Hid (ascTo xs k = ascTo xs n) := by
        by_cases h0 : n = 0
        · obtain rfl : k = 1 := by omega
          rw [Hid, h0]; rfl
        · obtain rfl : k = n := by omega
          rfl
      go_wp2_with fail
      go_ret
      exact ⟨ret_int (by rw [HE.out]), m0, rfl⟩
theorem asAscents_any (a : Option Addr) (xs : List Int) (n cap : Nat) (w : World) (hx : Rd w a xs) (hn : n ≤ xs.length) :
    Calls Try.prog 38 #[.slice a n cap] w fun e w' => e = .returned (.int .i64 (ascTo xs n : Nat)) ∧ Below w.heap.size w w' :=
  (asAscents_q a xs n cap w hx hn).mono (fun e w' ⟨h1, m, h2⟩ => ⟨h1, by rw [h2]; exact Joins.below_draws _ _ _⟩)

theorem asBound_q (a : Option Addr) (xs : List Int) (n cap : Nat) (w : World) (hx : Rd w a xs) (hn : n ≤ xs.length) :
    Calls Try.prog 48 #[.slice a n cap] w fun e w' => e = .returned (.int .i64 (bndTo xs n)) ∧ ∃ m, w' = w.drewN m := by
  have hlen := hx.len
  by_cases h0 : n = 0
  · subst h0
    go_enter Try.func48, Try.ntmps48
    go_wp2_with fail
    go_ret
    exact ⟨rfl, 0, rfl⟩
  · have H1 : Hid (bndTo xs n = (ascTo xs n : Int) + 1) := bndTo_pos xs (by omega)
    have hal := ascTo_le xs n
    go_enter Try.func48, Try.ntmps48
    go_wp2_with fail
    refine (asAscents_q _ xs _ _ _ hx hn).mono ?_
    rintro e w1 ⟨rfl, m, rfl⟩
    go_wp2_with fail
    go_ret
    exact ⟨ret_int (by rw [H1.out]), m, rfl⟩
theorem asBound_any (a : Option Addr) (xs : List Int) (n cap : Nat) (w : World) (hx : Rd w a xs) (hn : n ≤ xs.length) :
    Calls Try.prog 48 #[.slice a n cap] w fun e w' => e = .returned (.int .i64 (bndTo xs n)) ∧ Below w.heap.size w w' :=
  (asBound_q a xs n cap w hx hn).mono (fun e w' ⟨h1, m, h2⟩ => ⟨h1, by rw [h2]; exact Joins.below_draws _ _ _⟩)
theorem asBound_is {a : Option Addr} {xs : List Int} {n cap : Nat} {w : World} (hx : Rd w a xs) (hn : n ≤ xs.length) {b : Int} (hb : bndTo xs n = b) (m : Nat) :
    Calls Try.prog 48 #[.slice a n cap] (w.drewN m) fun e w' => e = .returned (.int .i64 b) ∧ ∃ k, w' = w.drewN k :=
  Calls.quiet_of ((asBound_q a xs n cap (w.drewN m) (hx.below (Joins.below_draws _ _ _)) hn).mono (fun e w' hh => ⟨by rw [← hb]; exact hh.1, hh.2⟩))

/-- one number more at the end of a row that is owned -/
theorem push_at {ops : Array Oper} {rest : List Oper} {o : Oper} {a : Act} {Q : Exit → Act → World → Prop} (hgd : o.guard = none) (s x : Operand)
    (ho : o.op = .call { callee := .builtin .append, args := #[s, x], argTypes := #[22, 22] }) {wr : World} {B : Nat} {v : Value} {ys : List Int} {z : Int}
    (hs : a.eval s = v) (hown : OwnI wr B v ys) (hx : a.eval x = .slice (some ⟨wr.heap.size, 0, none⟩) 1 1) (h63 : ys.length ≤ 1048576) (hB : B ≤ wr.heap.size)
    (h : ∀ v' w', OwnI w' B v' (ys ++ [z]) → wr.grownBy w' v.ownBlock → (v'.ownBlock = v.ownBlock ∨ v'.ownBlock = some (wr.heap.size + 1)) → wpList Try.prog ops Q rest (a.put o.dst v') w') :
    wpList Try.prog ops Q (o :: rest) a (wr.alloc (.cells #[.int .i64 z] 3)) := by
  obtain ⟨i0, hi, hz0, hz1, hz2⟩ := info_parts infoInt
  refine wpList_append_own_at _ hgd s x 22 ho B 3 i0 (.int .i64 0) 1 8 Try.underlying22 hi hz0 hz1 hz2 rfl (by decide) v ys.length (ys.map (Value.int .i64)) hs (hown.alloc _) ⟨wr.heap.size, 0, none⟩ 1 1 [.int .i64 z] hx rfl (cell_one_new _ _ _) (by intro u hu; simp at hu; subst hu; rfl) (by unfold maxLen; omega) (by omega) (by simp; omega) ?_
  intro v' w' ho2 hg _ hat
  refine h v' w' ?_ (grown_alloc_set hg) (by simpa using hat)
  unfold OwnI
  rw [List.length_append, List.map_append]
  exact ho2
/-- the same at a step of a region that draws its order; the new number lies somewhere -/
theorem step_push {ops : Array Oper} {o : Oper} {a : Act} {K : Act → World → Prop} {Q : Exit → Act → World → Prop} {E : Prop} (hgd : o.guard = none) (s x : Operand)
    (ho : o.op = .call { callee := .builtin .append, args := #[s, x], argTypes := #[22, 22] }) {W : World} {B g n : Nat} {v : Value} {ys : List Int} {z : Int}
    (hs : a.eval s = v) (hx : a.eval x = .slice (some ⟨g, 0, none⟩) 1 1) (hown : OwnI W B v ys) (hn : ys.length = n) (hz : W.cell? ⟨g, 0, none⟩ = some (.int .i64 z)) (h63 : n ≤ 1048576) (hB : B ≤ W.heap.size)
    (h : ∀ g' cap w', OwnI w' B (.slice (some ⟨g', 0, none⟩) (n + 1) cap) (ys ++ [z]) → W.grownBy w' v.ownBlock → (v.ownBlock = some g' ∨ g' = W.heap.size) → K (a.put o.dst (.slice (some ⟨g', 0, none⟩) (n + 1) cap)) w') :
    if Region.wanted o (yielded ops a.tmps) = true then Oper.wp Try.prog o a W K Q else E := by
  subst hn
  obtain ⟨i0, hi, hz0, hz1, hz2⟩ := info_parts infoInt
  refine step_append_lies W hgd s x 22 ho B 3 i0 (.int .i64 0) 1 8 Try.underlying22 hi hz0 hz1 hz2 rfl (by decide) v ys.length (ys.map (Value.int .i64)) hs hown ⟨g, 0, none⟩ 1 1 [.int .i64 z] hx rfl ?_ (by intro u hu; simp at hu; subst hu; rfl) (by omega) (by unfold maxLen; omega) (by omega) hB W.heap.size rfl ?_
  · intro j u hj
    obtain ⟨hlt, e⟩ := List.getElem?_eq_some_iff.1 hj
    have h0 : j = 0 := by simpa using hlt
    subst h0
    simp at e
    subst e
    rw [Addr.add_lit]; simpa using hz
  · intro g' cap w' ho2 hg hat _
    refine h g' cap w' ?_ hg hat
    unfold OwnI
    rw [List.length_append, List.map_append]
    exact ho2
theorem news_after {w w3 : World} {x : Int} {m : Nat} (h : Below ((w.drewN m).alloc (.cells #[.int .i64 x] 3)).heap.size ((w.drewN m).alloc (.cells #[.int .i64 x] 3)) w3) : w3.cell? ⟨w.heap.size, 0, none⟩ = some (.int .i64 x) :=
  (h.cell (p := ⟨w.heap.size, 0, none⟩) (show w.heap.size < ((w.drewN m).alloc _).heap.size by rw [World.size_alloc]; exact Nat.lt_succ_of_le (Joins.below_draws w.heap.size w m).size)).trans ((show ∀ W : World, (W.alloc (.cells #[.int .i64 x] 3)).cell? ⟨W.heap.size, 0, none⟩ = some (.int .i64 x) from fun W => by simp) (w.drewN m))
theorem below_after {w w3 : World} {m : Nat} {o : Obj} (h : Below ((w.drewN m).alloc o).heap.size ((w.drewN m).alloc o) w3) : Below w.heap.size w w3 :=
  Below.trans ((Joins.below_draws w.heap.size w m).alloc (Joins.below_draws w.heap.size w m).size _) (h.mono (Nat.le_trans (Joins.below_draws w.heap.size w m).size (by simp)))
theorem below_drew {w w3 : World} {m : Nat} (h : Below (w.drewN m).heap.size (w.drewN m) w3) : Below w.heap.size w w3 :=
  Below.trans (Joins.below_draws w.heap.size w m) (h.mono (Joins.below_draws w.heap.size w m).size)
/-- two values that own no block together -/
def SepV (v u : Value) : Prop := ∀ c, v.ownBlock = some c → u.ownBlock ≠ some c
theorem SepV.symm {v u : Value} (h : SepV v u) : SepV u v := fun c e e2 => h c e2 e
/-- the first of two rows has grown -/
theorem SepV.grow {w : World} {B : Nat} {v v' u : Value} {ys : List Int} {m : Nat} (h : SepV v u) (hu : OwnI w B u ys) (hm : w.heap.size ≤ m) (hat : v'.ownBlock = v.ownBlock ∨ v'.ownBlock = some m) : SepV v' u := by
  intro c e e2
  rcases hat with h1 | h1
  · exact h c (h1 ▸ e) e2
  · rw [h1] at e
    have := (hu.lt c e2).2
    simp only [Option.some.injEq] at e
    omega

/-- the elements of a set that are less than k, in order -/
def elemsTo (s : Nat) : Nat → List Int
  | 0 => []
  | k+1 => if s.testBit k then elemsTo s k ++ [(k : Int)] else elemsTo s k
theorem elemsTo_len (s : Nat) : ∀ k, (elemsTo s k).length ≤ k
  | 0 => by simp [elemsTo]
  | k+1 => by
    have := elemsTo_len s k
    simp only [elemsTo]
    split <;> simp <;> omega
theorem mem_elemsTo (s : Nat) (x : Int) : ∀ k, x ∈ elemsTo s k ↔ ∃ i : Nat, i < k ∧ s.testBit i = true ∧ x = i
  | 0 => by simp [elemsTo]
  | k+1 => by
    have ih := mem_elemsTo s x k
    simp only [elemsTo]
    cases hb : s.testBit k
    · rw [if_neg (by simp), ih]
      constructor
      · rintro ⟨i, h1, h2, h3⟩
        exact ⟨i, by omega, h2, h3⟩
      · rintro ⟨i, h1, h2, h3⟩
        have : i ≠ k := fun e => by rw [e, hb] at h2; cases h2
        exact ⟨i, by omega, h2, h3⟩
    · rw [if_pos rfl, List.mem_append, ih]
      constructor
      · rintro (⟨i, h1, h2, h3⟩ | h)
        · exact ⟨i, by omega, h2, h3⟩
        · exact ⟨k, by omega, hb, by simpa using h⟩
      · rintro ⟨i, h1, h2, h3⟩
        by_cases e : i = k
        · exact .inr (by simp [h3, e])
        · exact .inl ⟨i, by omega, h2, h3⟩
theorem elemsTo_more (s k : Nat) (h : s >>> k = 0) : ∀ m, elemsTo s (k + m) = elemsTo s k
  | 0 => rfl
  | m+1 => by
    have hb : s.testBit (k + m) = false := by
      rw [Nat.testBit]
      have : s >>> (k + m) = 0 := by rw [Nat.shiftRight_add, h]; simp
      simp [this]
    show elemsTo s (k + m + 1) = _
    simp only [elemsTo, hb]
    exact elemsTo_more s k h m
/-- all elements of a set below 1024 -/
def elems (s : Nat) : List Int := elemsTo s 10
theorem elems_at {s k : Nat} (h : s >>> k = 0) (hk : k ≤ 10) : elemsTo s k = elems s := by
  have := elemsTo_more s k h (10 - k)
  rw [show k + (10 - k) = 10 from by omega] at this
  exact this.symm
theorem elems_len (s : Nat) : (elems s).length ≤ 10 := elemsTo_len s 10
theorem mem_elems {s : Nat} (hs : s < 1024) {x : Int} : x ∈ elems s ↔ ∃ i : Nat, s.testBit i = true ∧ x = i := by
  rw [elems, mem_elemsTo]
  constructor
  · rintro ⟨i, _, h2, h3⟩
    exact ⟨i, h2, h3⟩
  · rintro ⟨i, h2, h3⟩
    refine ⟨i, ?_, h2, h3⟩
    rcases Nat.lt_or_ge i 10 with h | h
    · exact h
    · have : s < 2 ^ i := Nat.lt_of_lt_of_le hs (Nat.pow_le_pow_right (by omega : 0 < 2) h)
      rw [Nat.testBit_lt_two_pow this] at h2
      cases h2
theorem nth_mem {xs : List Int} {k : Nat} (h : k < xs.length) : nth xs k ∈ xs := by
  rw [nth_get xs k h]; exact List.getElem_mem h
theorem mem_nth {xs : List Int} {x : Int} (h : x ∈ xs) : ∃ k, k < xs.length ∧ nth xs k = x := by
  obtain ⟨k, hk, e⟩ := List.getElem_of_mem h
  exact ⟨k, hk, by rw [nth_get xs k hk, e]⟩

set_option maxRecDepth 100000 in
theorem asNext_any (a : Option Addr) (xs : List Int) (cap : Nat) (w : World) (hx : Rd w a xs) (hcap : xs.length ≤ cap) (hA : ascB xs = true) :
    Calls Try.prog 40 #[.slice a xs.length cap] w fun e w' => ∃ a' cap', e = .returned (.tuple #[.slice a' (nxL xs).length cap', .bool (nxB xs)]) ∧ OwnI w' w.heap.size (.slice a' (nxL xs).length cap') (nxL xs) ∧ Below w.heap.size w w' := by
  have hlen := hx.len
  have HL : Hid (nxL xs = match lastR xs xs.length with | some i => nxList xs i | none => []) := by simp [Hid, nxL, hA]
  have HB : Hid (nxB xs = (lastR xs xs.length).isSome) := by simp [Hid, nxB, hA]
  have h12 := (ascB_iff.1 hA).1
  have HA := Lib.hid hA
  clear hA
  go_enter Try.func40, Try.ntmps40
  go_wp2_with fail
  go_loopw [4] (fun i wr => ∃ d : Nat, d + 1 ≤ max 1 xs.length ∧ i = .int .i64 ((xs.length : Int) - 1 - (d : Int)) ∧ (∀ t, xs.length < t + d + 1 → t < xs.length → canB xs t = false) ∧ Below w.heap.size w wr) (fun i _ => (intOf i).toNat)
  case atStart => exact ⟨0, by omega, by simp, fun t h1 h2 => by omega, Below.refl _ _⟩
  case round =>
    obtain ⟨d, hd, rfl, hall, hb⟩ := hrel
    have HALL := Lib.hid hall
    clear hall
    by_cases hlt : d + 1 < xs.length
    · obtain ⟨k, hk⟩ : ∃ k, k = xs.length - 1 - d := ⟨_, rfl⟩
      have e : (xs.length : Int) - 1 - (d : Int) = (k : Int) := by omega
      have e1 : (xs.length : Int) - 1 - ((d + 1 : Nat) : Int) = (k : Int) - 1 := by omega
      have HE1 := Lib.hid e1
      have hk0 : 0 < k := by omega
      have hkn : k < xs.length := by omega
      have hkd : d + 1 + k = xs.length := by omega
      rw [e]
      clear e e1 hk
      have hxr := hx.below hb
      have ⟨x0, x1⟩ := ascB_small HA.out hkn
      obtain ⟨b, off, ea, hbl, hc⟩ := hxr.cell k hkn
      subst ea
      have k1 : (k : Int) ≤ (cap : Int) := by omega
      obtain ⟨Bd, hBd⟩ : ∃ Bd, bndTo xs k = Bd := ⟨_, rfl⟩
      have HBD := Lib.hid hBd
      clear hBd
      by_cases h1 : nth xs k < Bd
      · have HR : Hid (lastR xs xs.length = some k) := lastR_of (by rw [canB, HBD.out]; simpa using h1) hkn (fun t h2 h3 => HALL.out t (by omega) h3)
        have hbs := hb.size
        have HXT := Lib.hid (hxr.take k)
        have hTL : (xs.take k).length = k := by simp; omega
        have HTL := Lib.hid hTL
        have hxs1 : IntKind.i64.wrap (nth xs k + 1) = nth xs k + 1 := by rw [i64_wrap, IntWalk.wrap64_in _ ⟨by omega, by omega⟩]
        clear hTL
        go_wp2_with fail
        go_quiet ((go_at_call 48; exact asBound_is hxr (Nat.le_of_lt hkn) HBD.out _))
        go_wp2_with fail
        go_region_law (first | (have _g := NW; refine step_push (by rfl) _ _ (by rfl) (by rfl) (by rfl) (by first | exact ho3 | exact ho3.below (Joins.below_draws _ _ _) (Nat.le_refl _)) (by exact HTL.out) (by exact NW) (by omega) (by exact ht3.size) ?_; intro g5 c5 w5 ho5 hg5 hat5; have b5 : Below wr.heap.size wr w5 := ht3.trans (below_of_grown hg5 (fun c e => (ho3.lt c e).1) ht3.size)) | (have _g := ho3; refine step_push (by rfl) _ _ (by rfl) (by rfl) (by rfl) (by exact ho3.alloc _) (by exact HTL.out) (by simp; rfl) (by omega) (by have := ht3.size; simp; omega) ?_; intro g5 c5 w5 ho5 hg5 hat5; have b5 : Below wr.heap.size wr w5 := ht3.trans (below_of_grown (grown_alloc_set hg5) (fun c e => (ho3.lt c e).1) ht3.size)) | (go_simp; go_at_call 49; refine (l1Own_take _ xs k _ _ (by first | exact hxr.below (Joins.below_draws _ _ _) | exact (hxr.below (Joins.below_draws _ _ _)).alloc _) (by omega) (by omega)).mono ?_; rintro e w3 ⟨a3, c3, rfl, ho3', hb3⟩; have ht3 : Below wr.heap.size wr w3 := (by first | exact below_drew hb3 | exact below_after hb3); have ho3 := ho3'.mono (B' := wr.heap.size) (by simp); have hc3 := (ht3.cell (p := ⟨b, off + k, none⟩) hbl).trans hc; (try have NW := news_after hb3); clear ho3' hb3))
        all_goals
          have bw5 := hb.trans (b5.mono hbs)
          have o5 := ho5.mono hbs
          have hs5 := b5.size
          have HE : Hid (nxL xs = (xs.take k ++ [nth xs k + 1]) ++ List.replicate (xs.length - (k + 1)) 0) := by rw [Hid, HL.out, HR.out]; rfl
          have HB2 : Hid (nxB xs = true) := by rw [Hid, HB.out, HR.out]; rfl
          obtain ⟨Z, hZ⟩ : ∃ Z, Z = xs.take k ++ [nth xs k + 1] := ⟨_, rfl⟩
          have hZl : Z.length = k + 1 := by rw [hZ, List.length_append, HTL.out]; rfl
          rw [← hZ] at o5 HE
          have HZL := Lib.hid hZl
          clear ho5 hg5 hat5 hZ hZl ho3 ht3
          go_wp2_with fail
          go_simp
          go_loopw [5] (fun v wi => ∃ j : Nat, k + 1 + j ≤ xs.length ∧ OwnI wi w.heap.size v (Z ++ List.replicate j 0) ∧ Below w.heap.size w wi) (fun v _ => xs.length - sliceLen v)
          case atStart => exact ⟨0, by omega, by simpa using o5, bw5⟩
          case round =>
            clear o5 bw5
            obtain ⟨j, hj, hown, hbi⟩ := hrel
            obtain ⟨av, cv, rfl⟩ := hown.form
            have hlen2 : (Z ++ List.replicate j (0 : Int)).length = k + 1 + j := by rw [List.length_append, HZL.out, List.length_replicate]
            obtain ⟨Y, hY⟩ : ∃ Y, Y = Z ++ List.replicate j (0 : Int) := ⟨_, rfl⟩
            rw [← hY] at hown hlen2 ⊢
            have HY := Lib.hid hY
            clear hY
            have hl63 : Y.length ≤ 1048576 := by omega
            have HYL := Lib.hid hlen2
            rw [hlen2] at hown ⊢
            clear hlen2
            by_cases hjl : k + 1 + j < xs.length
            · have j1 : ((k + 1 + j : Nat) : Int) < (xs.length : Int) := by omega
              go_wp2_with (at_builtin; refine push_at rfl _ _ rfl rfl hown rfl hl63 hbi.size ?_; intro v7 w7 o7 hg7 hat7)
              go_roundw
              case rel => exact ⟨j + 1, by omega, by rw [List.replicate_succ', ← List.append_assoc, ← HY.out]; exact o7, hbi.trans (below_of_grown hg7 (fun c e => (hown.lt c e).1) hbi.size)⟩
              case measure =>
                have h8 := o7.sliceLen
                rw [List.length_append, HYL.out] at h8
                simp only [List.length_cons, List.length_nil] at h8
                show xs.length - sliceLen v7 < xs.length - (k + 1 + j)
                omega
            · have HE2 : Hid (nxL xs = Y) := by rw [Hid, HE.out, HY.out, show xs.length - (k + 1) = j by omega]
              have j1 : ¬ ((k + 1 + j : Nat) : Int) < (xs.length : Int) := by omega
              go_wp2_with fail
              refine bodyPost_ret (v := .tuple #[.slice av (k + 1 + j) cv, .bool true]) (by simp [results, Try.results40, go_sem]) rfl ?_
              exact ⟨av, cv, by rw [HE2.out, HB2.out, HYL.out], by rw [HE2.out, HYL.out]; exact hown, hbi⟩
      · have HCF : Hid (canB xs k = false) := by rw [Hid, canB, HBD.out]; simpa using h1
        go_wp2_with fail
        go_quiet ((go_at_call 48; exact asBound_is hxr (Nat.le_of_lt hkn) HBD.out _))
        go_wp2_with fail
        go_roundw
        case rel => 
          refine ⟨d + 1, by omega, by rw [HE1.out], fun t h2 h3 => ?_, hb.trans (Joins.below_draws _ _ _)⟩
          by_cases e : t = k
          · rw [e]; exact HCF.out
          · exact HALL.out t (by omega) h3
        case measure => simp [intOf]; omega
    · have hneg : ¬ (0 : Int) < (xs.length : Int) - 1 - (d : Int) := by omega
      have HR : Hid (lastR xs xs.length = none) := lastR_none (fun t ht => by
        by_cases e : t = 0
        · subst e; exact canB_zero HA.out ht
        · exact HALL.out t (by omega) ht)
      have H1 : Hid (nxL xs = []) := by rw [Hid, HL.out, HR.out]
      have H2 : Hid (nxB xs = false) := by rw [Hid, HB.out, HR.out]; rfl
      go_wp2_with fail
      refine bodyPost_ret (v := .tuple #[.slice none 0 0, .bool false]) (by simp [results, Try.results40, go_sem]) rfl ?_
      exact ⟨none, 0, by rw [H1.out, H2.out]; rfl, by rw [H1.out]; exact OwnI.nil _ _, hb⟩

theorem l1In_any (n lo hi : Int) (w : World) :
    Calls Try.prog 41 #[.int .i64 n, .int .i64 lo, .int .i64 hi] w fun e w' => e = .returned (.bool (inB n lo hi)) ∧ w = w' := by
  go_enter Try.func41, Try.ntmps41
  go_wp2
  all_goals (go_ret; exact ⟨ret_bool (by simp [inB]; try omega), rfl⟩)
theorem l1In_is {n lo hi : Int} {b : Bool} (h : inB n lo hi = b) (w : World) (m : Nat) :
    Calls Try.prog 41 #[.int .i64 n, .int .i64 lo, .int .i64 hi] (w.drewN m) fun e w' => e = .returned (.bool b) ∧ ∃ k, w' = w.drewN k :=
  Calls.quiet_of_same ((l1In_any n lo hi (w.drewN m)).mono (fun e w' hh => ⟨by rw [← h]; exact hh.1, hh.2.symm⟩))

theorem below_grown_none {w w' : World} {B : Nat} (h : w.grownBy w' none) (hB : B ≤ w.heap.size) : Below B w w' :=
  below_of_grown (v := .slice none 0 0) h (fun b e => by simp [Value.ownBlock] at e) hB

/-- a row of m integers of which the first k are filled, f 0 .. -/
def rowF (f : Nat → Int) (m k : Nat) : List Int := fmap f k ++ List.replicate (m - k) 0
theorem rowF_len (f : Nat → Int) {m k : Nat} (h : k ≤ m) : (rowF f m k).length = m := by simp [rowF, fmap_len]; omega
theorem rowF_set (f : Nat → Int) {m k : Nat} (h : k < m) : (rowF f m k).set k (f k) = rowF f m (k+1) := by
  apply List.ext_getElem?
  intro j
  rw [List.getElem?_set]
  by_cases hj : k = j
  · subst hj
    rw [if_pos rfl, if_pos (by rw [rowF_len f (by omega)]; exact h), rowF, List.getElem?_append_left (by rw [fmap_len]; omega)]
    simp [fmap]
  · simp only [hj, if_false, rowF, List.getElem?_append, fmap_len, List.getElem?_replicate]
    by_cases h1 : j < k
    · have h2 : j < k + 1 := by omega
      simp [h1, h2, fmap]
    · have h2 : ¬ j < k + 1 := by omega
      have h3 : j - k < m - k ↔ j - (k+1) < m - (k+1) := by omega
      simp [h1, h2, h3]
theorem rowF_zero (f : Nat → Int) {m k : Nat} (h : k < m) : (rowF f m k).set k 0 = rowF f m k := by
  apply List.ext_getElem?
  intro j
  rw [List.getElem?_set]
  by_cases hj : k = j
  · subst hj
    rw [if_pos rfl, if_pos (by rw [rowF_len f (by omega)]; exact h), rowF, List.getElem?_append_right (by rw [fmap_len]; omega)]
    rw [fmap_len, Nat.sub_self, List.getElem?_replicate, if_pos (by omega)]
  · simp [hj]
theorem rowF_end (f : Nat → Int) (m : Nat) : rowF f m m = fmap f m := by simp [rowF]
theorem made_row {w1 : World} {B : Nat} {v : Value} {m : Nat} (f : Nat → Int) (h : w1.ownsRow B 3 1 v m (madeCells (Value.int .i64 0).cells (m * 1)).toList) : OwnI w1 B v (rowF f m 0) := by
  unfold OwnI
  rw [rowF_len f (Nat.zero_le _)]
  simpa [Value.cells, toList_madeCells_one, fmap, rowF] using h

theorem RowsP.lit {w : World} {B n c : Nat} {a : Option Addr} {r : List Int} (h : OwnI w B (.slice a n c) r) (hB : B ≤ w.heap.size) : RowsP (w.alloc (.cells #[.slice a n c] 22)) B (.slice (some ⟨w.heap.size, 0, none⟩) 1 1) [.slice a n c] [r] := RowsP.one h hB
set_option maxRecDepth 100000 in
theorem sListAsc_any (n : Int) (w : World) (hn : -9223372036854775808 ≤ n ∧ n ≤ 9223372036854775807) :
    Calls Try.prog 21 #[.int .i64 n] w fun e w' => ∃ a' cap' vl, e = .returned (.tuple #[.slice a' (laL n).length cap', .bool (laB n)]) ∧ RowsP w' w.heap.size (.slice a' (laL n).length cap') vl (laL n) ∧ Below w.heap.size w w' := by
  obtain ⟨i0, hi, hz0, hz1, hz2⟩ := info_parts infoInt
  have HNO : Hid (laB n = false → laL n = []) := fun hh => by simp [laL, hh]
  cases h : inB n 0 7
  · have H2 : Hid (laB n = false) := h
    have HI := Lib.hid h
    clear h
    go_enter Try.func21, Try.ntmps21
    go_wp2_with fail
    refine (l1In_any _ _ _ _).mono ?_
    rintro e w' ⟨rfl, rfl⟩
    rw [HI.out]
    go_wp2_with fail
    refine bodyPost_ret (v := .tuple #[.slice none 0 0, .bool false]) (by simp [results, Try.results21, go_sem]) rfl ?_
    first | exact ⟨none, 0, [], by rw [HNO.out H2.out, H2.out]; rfl, by rw [HNO.out H2.out]; exact RowsP.nil _ _, Below.refl _ _⟩ | exact ⟨none, 0, by rw [HNO.out H2.out, H2.out]; rfl, ⟨[], by rw [HNO.out H2.out]; exact RowsP.nil _ _⟩, Below.refl _ _⟩
  · have ⟨h0, h1⟩ := inB_iff.1 h
    obtain ⟨N, rfl⟩ := Int.eq_ofNat_of_zero_le h0
    have hN : N ≤ 7 := by omega
    have H2 : Hid (laB (N : Int) = true) := h
    have HI := Lib.hid h
    have H1 : Hid (laL (N : Int) = laS N) := by rw [Hid, laL, if_pos H2.out]; rfl
    have HE := Lib.hid (laS_end ⟨N, by omega⟩)
    have HLN := Lib.hid (laS_len ⟨N, by omega⟩)
    have HROW : Hid (∀ k, k < (laS N).length → (rowL (laS N) k).length = N ∧ ascB (rowL (laS N) k) = true) := fun k hk => laS_row hN hk
    have HNXT : Hid (∀ k, k < (laS N).length → nxB (rowL (laS N) k) = decide (k + 1 < (laS N).length) ∧ (k + 1 < (laS N).length → nxL (rowL (laS N) k) = rowL (laS N) (k+1))) := fun k hk => laSeq_next HE.out k hk
    have HZ : Hid (rowL (laS N) 0 = List.replicate N 0) := laSeq_zero HE.out
    have HP : Hid (0 < (laS N).length) := laSeq_pos HE.out
    obtain ⟨S, hS⟩ : ∃ S, S = laS N := ⟨_, rfl⟩
    rw [← hS] at H1 HROW HNXT HZ HP
    have hKL : S.length ≤ 1014 := by rw [hS]; exact HLN.out
    have HA0 : Hid (ascB (List.replicate N 0) = true) := by rw [Hid, ← HZ.out]; exact (HROW.out 0 HP.out).2
    have HN0 : Hid (nxB (List.replicate N 0) = decide (1 < S.length) ∧ (1 < S.length → nxL (List.replicate N 0) = rowL S 1)) := by rw [Hid, ← HZ.out]; exact HNXT.out 0 HP.out
    clear hS HE HLN h0 h1 h
    go_enter Try.func21, Try.ntmps21
    go_wp2_with fail
    refine (l1In_any _ _ _ _).mono ?_
    rintro e w' ⟨rfl, rfl⟩
    rw [HI.out]
    go_wp2_with (at_make; refine wpList_make_full _ rfl (.tmp 11) (.tmp 11) 22 rfl w.heap.size 3 i0 (.int .i64 0) 1 Try.underlying22 hi hz0 hz1 .i64 .i64 _ _ N rfl rfl rfl rfl (by rw [hz2]; omega) (by unfold maxLen; omega) (Nat.le_refl _) ?_; intro w1 hown hgrow)
    have b1 : Below w.heap.size w w1 := below_grown_none hgrow (Nat.le_refl _)
    have hs1 := b1.size
    have o1 : OwnI w1 w.heap.size (.slice (some ⟨w.heap.size, 0, none⟩) N N) (List.replicate N 0) := by
      have h := made_row (fun _ => 0) hown
      simpa [rowF, fmap] using h
    have hro1 := RowsP.one o1 hs1
    have rr1 := o1.rd.alloc (.cells #[.slice (some ⟨w.heap.size, 0, none⟩) N N] 22)
    have b2 := b1.alloc hs1 (.cells #[.slice (some ⟨w.heap.size, 0, none⟩) N N] 22)
    have hcall := asNext_any _ (List.replicate N 0) N _ rr1 (by simp) HA0.out
    rw [List.length_replicate] at hcall
    have HRO1 := Lib.hid hro1
    clear hown hgrow o1 hro1 rr1
    go_wp2_with fail
    refine hcall.mono ?_
    rintro e w3 ⟨a3, c3, rfl, ho3, hb3⟩
    clear hcall
    rw [HN0.out.1]
    have b3 := b2.trans (hb3.mono b2.size)
    have hL0 : LaAt w3 w.heap.size S (.slice (some ⟨w1.heap.size, 0, none⟩) 1 1) (.slice a3 (nxL (List.replicate N 0)).length c3) 1 := by
      have e1 : S.take 1 = [List.replicate N 0] := by rw [take_snoc HP.out, List.take_zero, HZ.out]; rfl
      refine ⟨[.slice (some ⟨w.heap.size, 0, none⟩) N N], by rw [e1]; exact HRO1.out.below hb3 (Nat.le_refl _), fun h2 => ⟨_, b2.size, hb3.size, by rw [← HN0.out.2 h2]; exact ho3, HRO1.out.blk.1, by rw [e1]; exact HRO1.out.blk.2⟩⟩
    clear ho3 hb3 b1 b2 hs1
    go_wp2_with fail
    go_loopw [5, 6, 7] (fun v u ok wr => ∃ k : Nat, 1 ≤ k ∧ k ≤ S.length ∧ ok = .bool (decide (k < S.length)) ∧ LaAt wr w.heap.size S v u k ∧ Below w.heap.size w wr) (fun v _ _ _ => S.length - sliceLen v)
    case atStart => exact ⟨1, Nat.le_refl _, HP.out, rfl, hL0, b3⟩
    case round =>
      clear hL0 b3
      obtain ⟨k, hk0, hk, rfl, ⟨vl, hro, hnx⟩, hb⟩ := hrel
      have hbs := hb.size
      have hTL : (S.take k).length = k := by simp; omega
      obtain ⟨T, hT⟩ : ∃ T, T = S.take k := ⟨_, rfl⟩
      rw [← hT] at hro hTL hnx
      obtain ⟨av, cv, rfl⟩ := hro.o.form
      rw [hTL] at hro hnx ⊢
      have HTL := Lib.hid hTL
      by_cases hlt : k < S.length
      · obtain ⟨C, hC0, hC1, ho, hvC, hrC⟩ := hnx hlt
        have HTS : Hid (S.take (k+1) = T ++ [rowL S k]) := by rw [Hid, hT]; exact take_snoc hlt
        have hdk : decide (k < S.length) = true := decide_eq_true hlt
        have ⟨hr1, hr2⟩ := HROW.out k hlt
        have ⟨hn1, hn2⟩ := HNXT.out k hlt
        obtain ⟨R, hR⟩ : ∃ R, R = rowL S k := ⟨_, rfl⟩
        rw [← hR] at ho hr1 hr2 hn1 hn2 HTS
        obtain ⟨au, cu, rfl⟩ := ho.form
        have h63 : T.length ≤ 1048576 := by omega
        rw [hdk]
        have HRO := Lib.hid (And.intro hro (And.intro ho (And.intro hvC hrC)))
        have hcu := ho.capLe
        have HR := Lib.hid (And.intro hr2 (And.intro hn1 hn2))
        rw [hr1] at hcu ⊢
        have HRL := Lib.hid hr1
        clear hr1 hr2 hn1 hn2 hnx hdk hro ho hvC hrC hTL hR hT
        go_wp2_with (at_builtin; refine push_row (v := .slice av k cv) rfl _ _ rfl rfl HRO.out.1 (by rw [← HRL.out]; exact HRO.out.2.1) rfl h63 hC0 hC1 HRO.out.2.2.1 (by rw [HTL.out]; exact HRO.out.2.2.2) ?_; intro v2 w2 hro2 hb2)
        have oR : OwnI w2 C (.slice au R.length cu) R := HRO.out.2.1.kept hb2 (own_ne (fun c e e2 => by have h1 := HRO.out.2.2.1 c e2; have h2 := (HRO.out.2.1.lt c e).1; omega))
        have b2 := hb.trans (below_of_grown hb2 (fun c e => (HRO.out.1.o.lt c e).1) hbs)
        have hbs2 := b2.size
        have rR := oR.rd
        have HRO2 := Lib.hid hro2
        have hNx := asNext_any au R cu w2 rR (by rw [HRL.out]; exact hcu) HR.out.1
        rw [HRL.out] at hNx
        clear hro2 oR hb2
        go_wp2_with fail
        refine hNx.mono ?_
        rintro e w3 ⟨a3, c3, rfl, ho3, hb3⟩
        clear hNx
        rw [HR.out.2.1]
        have b3 := b2.trans (hb3.mono hbs2)
        have hro3 := HRO2.out.below hb3 (Nat.le_refl _)
        have hL : LaAt w3 w.heap.size S v2 (.slice a3 (nxL R).length c3) (k+1) := ⟨_, by rw [HTS.out]; exact hro3, fun hk2 => ⟨w2.heap.size, hbs2, hb3.size, by rw [← HR.out.2.2 hk2]; exact ho3, HRO2.out.blk.1, by rw [HTS.out]; exact HRO2.out.blk.2⟩⟩
        have hm : sliceLen v2 = k + 1 := by
          obtain ⟨a7, c7, e7⟩ := HRO2.out.o.form
          rw [e7, List.length_append, HTL.out]; rfl
        have HM := Lib.hid hm
        clear hm ho3
        go_wp2_with fail
        go_roundw
        case rel => exact ⟨k + 1, by omega, by omega, rfl, hL, b3⟩
        case measure =>
          rw [HM.out]
          show S.length - (k + 1) < S.length - k
          omega
      · obtain rfl : k = S.length := by omega
        have hdk : decide (S.length < S.length) = false := by simp
        rw [hdk]
        have HTT : Hid (T = S) := by rw [Hid, hT]; exact List.take_length
        clear hdk hnx hT hTL
        go_wp2_with fail
        refine bodyPost_ret (v := .tuple #[.slice av S.length cv, .bool true]) (by simp [results, Try.results21, go_sem]) rfl ?_
        first | exact ⟨av, cv, vl, by rw [H1.out, H2.out], by rw [H1.out, ← HTT.out, HTL.out]; exact hro, hb⟩ | exact ⟨av, cv, by rw [H1.out, H2.out], ⟨vl, by rw [H1.out, ← HTT.out, HTL.out]; exact hro⟩, hb⟩

theorem sListAscO_any (n : Int) (w : World) (hn : -9223372036854775808 ≤ n ∧ n ≤ 9223372036854775807) :
    Calls Try.prog 21 #[.int .i64 n] w fun e w' => ∃ a' cap' vl, e = .returned (.tuple #[.slice a' (laL n).length cap', .bool (laB n)]) ∧ RowsO w' w.heap.size (.slice a' (laL n).length cap') vl (laL n) ∧ Below w.heap.size w w' :=
  (sListAsc_any n w hn).mono (fun e w' ⟨a, c, vl, h1, h2, h3⟩ => ⟨a, c, vl, h1, h2.o, h3⟩)

theorem noClimb_any (w : World) :
    Calls Try.prog 35 #[] w fun e w' => e = .returned (.agg #[.int .i64 (-1), .int .i64 (-1)]) ∧ Below w.heap.size w w' := by
  go_enter Try.func35, Try.ntmps35
  go_wp2
  refine bodyPost_ret (v := .agg #[.int .i64 (-1), .int .i64 (-1)]) (by simp [results, Try.results35, go_sem]) rfl ⟨rfl, ?_⟩
  exact (by repeat (first | exact Below.refl _ _ | assumption | refine Below.alloc ?_ (by first | exact Nat.le_refl _ | (simp only [World.size_alloc, World.size_setCell, World.size_drew]; omega) | omega) _ | refine Below.setCell ?_ (by first | exact Nat.le_refl _ | (simp only [World.size_alloc, World.size_setCell, World.size_drew]; omega) | omega) _ | refine Below.drew ?_))
theorem greatest_any (l c : Int) (w : World) (h0 : -1 ≤ c) (h1 : c ≤ 1000) :
    Calls Try.prog 36 #[.agg #[.int .i64 l, .int .i64 c]] w fun e w' => e = .returned (.int .i64 (c + 1)) ∧ Below w.heap.size w w' := by
  go_enter Try.func36, Try.ntmps36
  go_wp2
  go_ret
  exact ⟨rfl, (by repeat (first | exact Below.refl _ _ | assumption | refine Below.alloc ?_ (by first | exact Nat.le_refl _ | (simp only [World.size_alloc, World.size_setCell, World.size_drew]; omega) | omega) _ | refine Below.setCell ?_ (by first | exact Nat.le_refl _ | (simp only [World.size_alloc, World.size_setCell, World.size_drew]; omega) | omega) _ | refine Below.drew ?_))⟩
theorem by_any (l c x : Int) (w : World) (h0 : -1 ≤ c) (h1 : c ≤ 1000) :
    Calls Try.prog 37 #[.agg #[.int .i64 l, .int .i64 c], .int .i64 x] w fun e w' => e = .returned (.agg #[.int .i64 x, .int .i64 (byA l c x)]) ∧ Below w.heap.size w w' := by
  by_cases h : l < x
  · have H : Hid (byA l c x = c + 1) := by simp [Hid, byA, h]
    go_enter Try.func37, Try.ntmps37
    go_wp2
    refine bodyPost_ret (v := .agg #[.int .i64 x, .int .i64 (c + 1)]) (by simp [results, Try.results37, go_sem]) rfl ⟨by rw [H.out], ?_⟩
    exact (by repeat (first | exact Below.refl _ _ | assumption | refine Below.alloc ?_ (by first | exact Nat.le_refl _ | (simp only [World.size_alloc, World.size_setCell, World.size_drew]; omega) | omega) _ | refine Below.setCell ?_ (by first | exact Nat.le_refl _ | (simp only [World.size_alloc, World.size_setCell, World.size_drew]; omega) | omega) _ | refine Below.drew ?_))
  · have H : Hid (byA l c x = c) := by simp [Hid, byA, h]
    go_enter Try.func37, Try.ntmps37
    go_wp2
    refine bodyPost_ret (v := .agg #[.int .i64 x, .int .i64 c]) (by simp [results, Try.results37, go_sem]) rfl ⟨by rw [H.out], ?_⟩
    exact (by repeat (first | exact Below.refl _ _ | assumption | refine Below.alloc ?_ (by first | exact Nat.le_refl _ | (simp only [World.size_alloc, World.size_setCell, World.size_drew]; omega) | omega) _ | refine Below.setCell ?_ (by first | exact Nat.le_refl _ | (simp only [World.size_alloc, World.size_setCell, World.size_drew]; omega) | omega) _ | refine Below.drew ?_))

theorem iIsAscent_any (a : Option Addr) (xs : List Int) (cap : Nat) (w : World) (hx : Rd w a xs) :
    Calls Try.prog 13 #[.slice a xs.length cap] w fun e w' => e = .returned (.bool (ascB xs)) ∧ Below w.heap.size w w' := by
  have hlen := hx.len
  by_cases hl : xs.length ≤ 12
  · go_enter Try.func13, Try.ntmps13
    go_wp2_with fail
    refine (noClimb_any _).mono ?_
    rintro e w1 ⟨rfl, hb1⟩
    have hz1 := hb1.size
    have V1 : Var2 (w1.alloc (.cells #[.int .i64 (-1), .int .i64 (-1)] 42)) w1.heap.size (.int .i64 (-1)) (.int .i64 (-1)) := Var2.new w1 _ _ _
    have b2 : Below w.heap.size w (w1.alloc (.cells #[.int .i64 (-1), .int .i64 (-1)] 42)) := hb1.alloc hz1 _
    go_wp2_with fail
    obtain ⟨g, hg⟩ : ∃ g, g = w1.heap.size := ⟨_, rfl⟩
    rw [← hg] at V1 hz1 ⊢
    clear hg
    go_loopw [12] (fun i wr => ∃ k : Nat, k ≤ xs.length ∧ i = .int .i64 k ∧ (∀ j, j < k → ascOk xs j = true) ∧ Var2 wr g (.int .i64 (clLast xs k)) (.int .i64 (clAsc xs k)) ∧ Below w.heap.size w wr) (fun i _ => xs.length - (intOf i).toNat)
    case atStart => exact ⟨0, Nat.zero_le _, rfl, fun j hj => by omega, V1, b2⟩
    case round =>
      clear V1 b2 hb1
      obtain ⟨k, hk, rfl, hall, hV, hb⟩ := hrel
      have HA := Lib.hid hall
      have ⟨⟨zV, cV, dV⟩, fV, gV⟩ := hV
      have ⟨ca0, ca1⟩ := clAsc_lt xs k
      clear hall
      by_cases hlt : k < xs.length
      · have hxr := hx.below hb
        obtain ⟨b, off, rfl, hbl, hc⟩ := hxr.cell k hlt
        by_cases h0 : nth xs k < 0
        · have HO : Hid (ascB xs = false) := ascB_no hlt (by rw [ascOk, inB_no]; omega)
          go_wp2_with fail
          go_ret
          exact ⟨ret_bool HO.out.symm, hb⟩
        · by_cases h1 : clAsc xs k + 1 < nth xs k
          · have HO : Hid (ascB xs = false) := ascB_no hlt (by rw [ascOk, inB_no, ← clAsc_bnd]; omega)
            go_wp2_with fail
            refine (greatest_any _ _ _ ca0 (by omega)).mono ?_
            rintro e w2 ⟨rfl, hb2⟩
            go_wp2_with fail
            go_ret
            exact ⟨ret_bool HO.out.symm, hb.trans (hb2.mono hb.size)⟩
          · have HM : Hid (ascOk xs k = true) := by rw [Hid, ascOk, inB_iff, ← clAsc_bnd]; omega
            have HS : Hid (byA (clLast xs k) (clAsc xs k) (nth xs k) = clAsc xs (k+1)) := clAsc_succ (by omega)
            have HL : Hid (clLast xs (k+1) = nth xs k) := clLast_succ xs k
            go_wp2_with fail
            refine (greatest_any _ _ _ ca0 (by omega)).mono ?_
            rintro e w2 ⟨rfl, hb2⟩
            have V2 := hV.below hb2
            have ⟨⟨zV2, cV2, dV2⟩, fV2, gV2⟩ := V2
            clear cV dV fV gV
            go_wp2_with fail
            refine (by_any _ _ _ _ ca0 (by omega)).mono ?_
            rintro e w3 ⟨rfl, hb3⟩
            have V3 := V2.below hb3
            have ⟨⟨zV3, cV3, dV3⟩, fV3, gV3⟩ := V3
            clear cV2 dV2 fV2 gV2
            rw [HS.out]
            have b3 : Below w.heap.size w w3 := (hb.trans (hb2.mono hb.size)).trans (hb3.mono (Nat.le_trans hb.size hb2.size))
            go_wp2_with fail
            go_roundw
            case rel =>
              refine ⟨k + 1, by omega, by go_num, fun j hj => ?_, by rw [HL.out]; exact V3.set _ _, (b3.setCell (p := ⟨g, 0, none⟩) hz1 _).setCell (p := ⟨g, 1, none⟩) hz1 _⟩
              by_cases e : j = k
              · rw [e]; exact HM.out
              · exact HA.out j (by omega)
            case measure => simp [intOf]; omega
      · obtain rfl : k = xs.length := by omega
        have HO : Hid (ascB xs = true) := ascB_iff.2 ⟨hl, HA.out⟩
        go_wp2_with fail
        go_ret
        exact ⟨ret_bool HO.out.symm, hb⟩
  · have HO := Lib.hid (ascB_long hl)
    go_enter Try.func13, Try.ntmps13
    go_wp2_with fail
    go_ret
    exact ⟨ret_bool HO.out.symm, Below.refl _ _⟩

/-- the first m numbers of a row are copied over the head of a row that is owned -/
theorem copy_head {ops : Array Oper} {rest : List Oper} {o : Oper} {a : Act} {Q : Exit → Act → World → Prop} (hgd : o.guard = none) (d s : Operand)
    (ho : o.op = .call { callee := .builtin .copy, args := #[d, s], argTypes := #[22, 22] }) {w : World} {B g n c m sc : Nat} {sp : Option Addr} {xs zs : List Int}
    (hd : a.eval d = .slice (some ⟨g, 0, none⟩) n c) (hs : a.eval s = .slice sp m sc) (hown : OwnI w B (.slice (some ⟨g, 0, none⟩) n c) zs) (hn : n = zs.length) (hx : Rd w sp xs) (hm : m ≤ xs.length) (hmn : m ≤ n)
    (h : ∀ w', OwnI w' B (.slice (some ⟨g, 0, none⟩) n c) (xs.take m ++ zs.drop m) → w.grownBy w' (some g) → wpList Try.prog ops Q rest (a.put o.dst (goInt m)) w') :
    wpList Try.prog ops Q (o :: rest) a w := by
  subst hn
  obtain ⟨i0, hi, hz0, hz1, hz2⟩ := info_parts infoInt
  have hsz1 : (Try.prog.info? 3).map (·.size) = some 1 := by rw [hi]; simp [hz1]
  by_cases hm0 : m = 0
  · subst hm0
    refine wpList_copy_nothing hgd d s 22 22 ho 3 Try.underlying22 hsz1 (some ⟨g, 0, none⟩) sp zs.length c 0 sc hd hs (by simp) ?_
    exact h w (by simpa using hown) (World.grownBy.refl _ _)
  · rcases hown.2 with ⟨e, _⟩ | ⟨g', cap', cur, e, hb, hg, hnc, hcm, hsz, htk⟩
    · cases e
    · simp only [Value.slice.injEq, Option.some.injEq, Addr.mk.injEq, and_true] at e
      obtain ⟨rfl, -, rfl⟩ := e
      have hgl := (Array.getElem?_eq_some_iff.1 hg).1
      have hml : ((xs.take m).map (Value.int .i64)).length = m := by simp; omega
      obtain ⟨b, off, e, _, _⟩ := hx.cell 0 (by omega)
      subst e
      have hlc : zs.length ≤ cur.toList.length := by simp; omega
      refine wpList_copy_own hgd d s 22 22 ho 3 Try.underlying22 hsz1 g 0 zs.length c ⟨b, off, none⟩ m sc hd hs cur 3 hg ((xs.take m).map (Value.int .i64)) (by rw [hml]; exact (Nat.min_eq_left hmn).symm) ?_ (by rw [hml]; omega) (ints_one _) ?_
      · intro j v hj
        rw [List.getElem?_map, Option.map_eq_some_iff] at hj
        obtain ⟨x, hx1, rfl⟩ := hj
        obtain ⟨hlt, e2⟩ := List.getElem?_eq_some_iff.1 hx1
        have hlt2 : j < xs.length := by rw [List.length_take] at hlt; omega
        obtain ⟨b', off', e', _, hc⟩ := hx.cell j hlt2
        simp only [Option.some.injEq, Addr.mk.injEq, and_true] at e'
        obtain ⟨rfl, rfl⟩ := e'
        rw [Addr.add_lit, hc, nth_get xs j hlt2, ← e2]
        simp
      · rw [hml]
        have htake : (xs.take m ++ zs.drop m).length = zs.length := by simp; omega
        refine h _ ?_ ⟨rfl, rfl, rfl, by simp [World.setRow], fun k hk hne => setRow_other w g k _ (by intro e; exact hne (by rw [e]))⟩
        refine ⟨by simp, .inr ⟨g, c, _, by rw [htake], hb, setRow_heap w g cur _ 3 (0, 0) hg, by rw [htake]; exact hnc, hcm, ?_, ?_⟩⟩
        · simp; omega
        · rw [htake]
          have h1 : cur.toList.take zs.length = zs.map (Value.int .i64) := by simpa using htk
          have h2 : (cur.toList.drop m).take (zs.length - m) = (zs.drop m).map (Value.int .i64) := by
            rw [List.map_drop, ← h1, List.drop_take]
          simp only [Nat.mul_one, List.take_zero, List.nil_append, Nat.zero_add]
          rw [List.take_append, hml, h2, List.take_of_length_le (by rw [hml]; exact hmn), List.map_append]

set_option maxRecDepth 100000 in
theorem iNext_any (a : Option Addr) (xs : List Int) (cap : Nat) (w : World) (hx : Rd w a xs) (hcap : xs.length ≤ cap) :
    Calls Try.prog 18 #[.slice a xs.length cap] w fun e w' => ∃ a' cap', e = .returned (.tuple #[.slice a' (nxL xs).length cap', .bool (nxB xs)]) ∧ OwnI w' w.heap.size (.slice a' (nxL xs).length cap') (nxL xs) ∧ Below w.heap.size w w' := by
  obtain ⟨i0, hi, hz0, hz1, hz2⟩ := info_parts infoInt
  have hlen := hx.len
  go_enter Try.func18, Try.ntmps18
  go_wp2_with fail
  refine (iIsAscent_any _ _ _ _ hx).mono ?_
  rintro e w1 ⟨rfl, hb1⟩
  cases hb0 : ascB xs
  · have HL : Hid (nxL xs = []) := by simp [Hid, nxL, hb0]
    have HB : Hid (nxB xs = false) := by simp [Hid, nxB, hb0]
    clear hb0
    go_wp2_with fail
    refine bodyPost_ret (v := .tuple #[.slice none 0 0, .bool false]) (by simp [results, Try.results18, go_sem]) rfl ?_
    exact ⟨none, 0, by rw [HL.out, HB.out]; rfl, by rw [HL.out]; exact OwnI.nil _ _, hb1⟩
  · have HL : Hid (nxL xs = match lastR xs xs.length with | some i => nxList xs i | none => []) := by simp [Hid, nxL, hb0]
    have HB : Hid (nxB xs = (lastR xs xs.length).isSome) := by simp [Hid, nxB, hb0]
    have h12 := (ascB_iff.1 hb0).1
    have HA := Lib.hid hb0
    clear hb0
    go_wp2_with fail
    refine (noClimb_any _).mono ?_
    rintro e w2 ⟨rfl, hb2⟩
    have bw2 := hb1.trans (hb2.mono hb1.size)
    have V1 : Var2 (w2.alloc (.cells #[.int .i64 (-1), .int .i64 (-1)] 42)) w2.heap.size (.int .i64 (-1)) (.int .i64 (-1)) := Var2.new w2 _ _ _
    have b3 : Below w.heap.size w (w2.alloc (.cells #[.int .i64 (-1), .int .i64 (-1)] 42)) := bw2.alloc bw2.size _
    have hg1 : w2.heap.size + 1 ≤ (w2.alloc (.cells #[.int .i64 (-1), .int .i64 (-1)] 42)).heap.size := by simp
    go_wp2_with fail
    obtain ⟨g, hg⟩ : ∃ g, g = w2.heap.size := ⟨_, rfl⟩
    have hg0 : w.heap.size ≤ g := by have := bw2.size; omega
    rw [← hg] at V1 hg1 ⊢
    clear hg
    go_loopw [4, 14] (fun v i wr => ∃ k : Nat, k ≤ xs.length ∧ i = .int .i64 k ∧ NxAt wr (g+1) xs v (lastR xs k) ∧ Var2 wr g (.int .i64 (clLast xs k)) (.int .i64 (clAsc xs k)) ∧ g + 1 ≤ wr.heap.size ∧ Below w.heap.size w wr) (fun _ i _ => xs.length - (intOf i).toNat)
    case atStart => exact ⟨0, Nat.zero_le _, rfl, rfl, V1, hg1, b3⟩
    case round =>
      clear V1 b3 hb1 hb2 bw2 hg1
      obtain ⟨k, hk, rfl, hN, hV, hgr, hb⟩ := hrel
      have ⟨⟨zV, cV, dV⟩, fV, gV⟩ := hV
      have ⟨ca0, ca1⟩ := clAsc_lt xs k
      by_cases hlt : k < xs.length
      · have hxr := hx.below hb
        obtain ⟨b, off, ea, hbl, hc⟩ := hxr.cell k hlt
        subst ea
        have ⟨x0, x1⟩ := ascB_small HA.out hlt
        have HS : Hid (byA (clLast xs k) (clAsc xs k) (nth xs k) = clAsc xs (k+1)) := clAsc_succ (by omega)
        have HCL : Hid (clLast xs (k+1) = nth xs k) := clLast_succ xs k
        have HCB : Hid (clAsc xs k + 1 = bndTo xs k) := clAsc_bnd xs k
        by_cases h1 : nth xs k < clAsc xs k + 1
        · have HR : Hid (lastR xs (k+1) = some k) := by rw [Hid, lastR, canB, if_pos (by rw [← HCB.out]; simpa using h1)]
          have k1 : (k : Int) ≤ (cap : Int) := by omega
          have k2 : (k : Int) < (xs.length : Int) := by omega
          have HNX : Hid ((xs.take k ++ (List.replicate xs.length (0 : Int)).drop k).set k (nth xs k + 1) = nxList xs k) := nx_row hlt
          have hTL : (xs.take k ++ (List.replicate xs.length (0 : Int)).drop k).length = xs.length := by simp; omega
          have HTL := Lib.hid hTL
          clear hN hTL
          go_wp2_with fail
          refine (greatest_any _ _ _ ca0 (by omega)).mono ?_
          rintro e w3 ⟨rfl, hb3⟩
          have V3 := hV.below hb3
          have ⟨⟨zV3, cV3, dV3⟩, fV3, gV3⟩ := V3
          have bw3 := hb.trans (hb3.mono hb.size)
          have zz3 := hb3.size
          clear cV dV fV gV
          go_wp2_with (first | (at_make; refine wpList_make_full _ rfl (.tmp 24) (.tmp 24) 22 rfl (g+1) 3 i0 (.int .i64 0) 1 Try.underlying22 hi hz0 hz1 .i64 .i64 _ _ xs.length rfl rfl rfl rfl (by rw [hz2]; omega) (by unfold maxLen; omega) (by omega) ?_; intro w4 hown4 hgrow4; have o4 : OwnI w4 (g+1) (.slice (some ⟨w3.heap.size, 0, none⟩) xs.length xs.length) (List.replicate xs.length 0) := (by have h := made_row (fun _ => 0) hown4; simpa [rowF, fmap] using h); have b4 := bw3.trans (below_grown_none hgrow4 bw3.size); have V4 := V3.kept hgrow4 (by simp); have z4 := hgrow4.size; clear hown4 cV3 dV3 fV3 gV3; have ⟨⟨zV4, cV4, dV4⟩, fV4, gV4⟩ := V4) | (have _t := o4; (with_reducible refine copy_head rfl (.tmp 26) (.tmp 29) rfl rfl rfl o4 (by simp) (hxr.below (hb3.trans (below_grown_none hgrow4 hb3.size))) (by omega) (by omega) ?_); intro w5 o5 hg5; have hne : ¬ g = w3.heap.size := (by omega); have hne2 : ¬ w3.heap.size = g := (by omega); have ⟨c5, f5⟩ := o5.at' HTL.out.symm (i := k) (by rw [HTL.out]; exact hlt); have P5 := (o5.put HTL.out.symm k (nth xs k + 1)).1; have b5 := b4.trans (grown_below hg5 w.heap.size (by omega) b4.size); have V5 := V4.kept hg5 (by simp; omega); have z5 := hg5.size; have ⟨⟨zV5, cV5, dV5⟩, fV5, gV5⟩ := V5; have HP5 := Lib.hid P5; clear P5 o5 o4 cV4 dV4 fV4 gV4))
          refine (by_any _ _ _ _ ca0 (by omega)).mono ?_
          rintro e w7 ⟨rfl, hb7⟩
          have V6 := (V5.other (p := ⟨w3.heap.size, k, none⟩) (.int .i64 (nth xs k + 1)) (by omega)).below hb7
          have ⟨⟨zV6, cV6, dV6⟩, fV6, gV6⟩ := V6
          have P6 := HP5.out
          rw [HNX.out] at P6
          have P7 := P6.below hb7 (Nat.le_refl _)
          have b7 := (b5.setCell (p := ⟨w3.heap.size, k, none⟩) (show w.heap.size ≤ w3.heap.size by omega) (.int .i64 (nth xs k + 1))).trans (hb7.mono (by simp; omega))
          have z7 := hb7.size
          simp only [World.size_setCell] at z7
          clear cV5 dV5 fV5 gV5 P6
          rw [HS.out]
          have HP7 := Lib.hid P7
          clear P7
          go_wp2_with fail
          go_roundw
          case rel => exact ⟨k + 1, by omega, by go_num, by rw [HR.out]; exact ⟨w3.heap.size, xs.length, rfl, (HP7.out.setBelow (p := ⟨g, 0, none⟩) (Nat.lt_succ_self g) _).setBelow (p := ⟨g, 1, none⟩) (Nat.lt_succ_self g) _⟩, by rw [HCL.out]; exact V6.set _ _, by simp; omega, (b7.setCell (p := ⟨g, 0, none⟩) hg0 _).setCell (p := ⟨g, 1, none⟩) hg0 _⟩
          case measure => simp [intOf]; omega
        · have HR : Hid (lastR xs (k+1) = lastR xs k) := by rw [Hid, lastR, canB, if_neg (by rw [← HCB.out]; simpa using h1)]
          have HN := Lib.hid hN
          clear hN
          go_wp2_with fail
          refine (greatest_any _ _ _ ca0 (by omega)).mono ?_
          rintro e w3 ⟨rfl, hb3⟩
          have V3 := hV.below hb3
          have ⟨⟨zV3, cV3, dV3⟩, fV3, gV3⟩ := V3
          have N3 := HN.out.below hb3 (Nat.le_refl _)
          have bw3 := hb.trans (hb3.mono hb.size)
          have zz3 := hb3.size
          clear cV dV fV gV
          go_wp2_with fail
          refine (by_any _ _ _ _ ca0 (by omega)).mono ?_
          rintro e w4 ⟨rfl, hb4⟩
          have V4 := V3.below hb4
          have ⟨⟨zV4, cV4, dV4⟩, fV4, gV4⟩ := V4
          have N4 := N3.below hb4 (Nat.le_refl _)
          have bw4 := bw3.trans (hb4.mono bw3.size)
          have zz4 := hb4.size
          clear cV3 dV3 fV3 gV3
          rw [HS.out]
          have HN4 := Lib.hid N4
          clear N4 N3
          go_wp2_with fail
          go_roundw
          case rel => exact ⟨k + 1, by omega, by go_num, by rw [HR.out]; exact (HN4.out.setBelow (p := ⟨g, 0, none⟩) (Nat.lt_succ_self g) _).setBelow (p := ⟨g, 1, none⟩) (Nat.lt_succ_self g) _, by rw [HCL.out]; exact V4.set _ _, by simp; omega, (bw4.setCell (p := ⟨g, 0, none⟩) hg0 _).setCell (p := ⟨g, 1, none⟩) hg0 _⟩
          case measure => simp [intOf]; omega
      · obtain rfl : k = xs.length := by omega
        cases hl : lastR xs xs.length with
        | none =>
          rw [hl] at hN
          have e : _ = Value.slice none 0 0 := hN
          subst e
          have H1 : Hid (nxL xs = []) := by rw [Hid, HL.out, hl]
          have H2 : Hid (nxB xs = false) := by rw [Hid, HB.out, hl]; rfl
          have hq := run_neq_slice_nil (P := Try.prog) (w := wr) 22 3 none 0 0 Try.underlying22
          simp only [Option.isNone_none, Bool.not_true] at hq
          clear hl hN
          go_wp2_with fail
          refine bodyPost_ret (v := .tuple #[.slice none 0 0, .bool false]) (by simp [results, Try.results18, go_sem]) rfl ?_
          exact ⟨none, 0, by rw [H1.out, H2.out]; rfl, by rw [H1.out]; exact OwnI.nil _ _, hb⟩
        | some i =>
          rw [hl] at hN
          obtain ⟨g4, c4, rfl, o4⟩ := hN
          have H1 : Hid (nxL xs = nxList xs i) := by rw [Hid, HL.out, hl]
          have H2 : Hid (nxB xs = true) := by rw [Hid, HB.out, hl]; rfl
          have H3 : Hid ((nxList xs i).length = xs.length) := nxList_len (lastR_lt hl)
          have hq := run_neq_slice_nil (P := Try.prog) (w := wr) 22 3 (some ⟨g4, 0, none⟩) xs.length c4 Try.underlying22
          simp only [Option.isNone_some, Bool.not_false] at hq
          clear hl
          go_wp2_with fail
          refine bodyPost_ret (v := .tuple #[.slice (some ⟨g4, 0, none⟩) xs.length c4, .bool true]) (by simp [results, Try.results18, go_sem]) rfl ?_
          exact ⟨some ⟨g4, 0, none⟩, c4, by rw [H1.out, H2.out, H3.out], by rw [H1.out, H3.out]; exact o4.mono (by omega), hb⟩

set_option maxRecDepth 100000 in
theorem iListAsc_any (n : Int) (w : World) (hn : -9223372036854775808 ≤ n ∧ n ≤ 9223372036854775807) :
    Calls Try.prog 22 #[.int .i64 n] w fun e w' => ∃ a' cap' vl, e = .returned (.tuple #[.slice a' (laL n).length cap', .bool (laB n)]) ∧ RowsP w' w.heap.size (.slice a' (laL n).length cap') vl (laL n) ∧ Below w.heap.size w w' := by
  obtain ⟨i0, hi, hz0, hz1, hz2⟩ := info_parts infoInt
  have HNO : Hid (laB n = false → laL n = []) := fun hh => by simp [laL, hh]
  by_cases h0 : n < 0
  · have H2 : Hid (laB n = false) := inB_no.2 (by omega)
    go_enter Try.func22, Try.ntmps22
    go_wp2_with fail
    refine bodyPost_ret (v := .tuple #[.slice none 0 0, .bool false]) (by simp [results, Try.results22, go_sem]) rfl ?_
    first | exact ⟨none, 0, [], by rw [HNO.out H2.out, H2.out]; rfl, by rw [HNO.out H2.out]; exact RowsP.nil _ _, Below.refl _ _⟩ | exact ⟨none, 0, by rw [HNO.out H2.out, H2.out]; rfl, ⟨[], by rw [HNO.out H2.out]; exact RowsP.nil _ _⟩, Below.refl _ _⟩
  · by_cases h1 : 7 < n
    · have H2 : Hid (laB n = false) := inB_no.2 (by omega)
      go_enter Try.func22, Try.ntmps22
      go_wp2_with fail
      refine bodyPost_ret (v := .tuple #[.slice none 0 0, .bool false]) (by simp [results, Try.results22, go_sem]) rfl ?_
      first | exact ⟨none, 0, [], by rw [HNO.out H2.out, H2.out]; rfl, by rw [HNO.out H2.out]; exact RowsP.nil _ _, Below.refl _ _⟩ | exact ⟨none, 0, by rw [HNO.out H2.out, H2.out]; rfl, ⟨[], by rw [HNO.out H2.out]; exact RowsP.nil _ _⟩, Below.refl _ _⟩
    · obtain ⟨N, rfl⟩ := Int.eq_ofNat_of_zero_le (by omega : 0 ≤ n)
      have hN : N ≤ 7 := by omega
      have H2 : Hid (laB (N : Int) = true) := inB_iff.2 (by omega)
      have H1 : Hid (laL (N : Int) = laS N) := by rw [Hid, laL, if_pos H2.out]; rfl
      have HE := Lib.hid (laS_end ⟨N, by omega⟩)
      have HLN := Lib.hid (laS_len ⟨N, by omega⟩)
      have HROW : Hid (∀ k, k < (laS N).length → (rowL (laS N) k).length = N ∧ ascB (rowL (laS N) k) = true) := fun k hk => laS_row hN hk
      have HNXT : Hid (∀ k, k < (laS N).length → nxB (rowL (laS N) k) = decide (k + 1 < (laS N).length) ∧ (k + 1 < (laS N).length → nxL (rowL (laS N) k) = rowL (laS N) (k+1))) := fun k hk => laSeq_next HE.out k hk
      have HZ : Hid (rowL (laS N) 0 = List.replicate N 0) := laSeq_zero HE.out
      have HP : Hid (0 < (laS N).length) := laSeq_pos HE.out
      obtain ⟨S, hS⟩ : ∃ S, S = laS N := ⟨_, rfl⟩
      rw [← hS] at H1 HROW HNXT HZ HP
      have hKL : S.length ≤ 1014 := by rw [hS]; exact HLN.out
      clear hS HE HLN h0 h1
      go_enter Try.func22, Try.ntmps22
      go_wp2_with (at_make; refine wpList_make_full _ rfl (.tmp 13) (.tmp 13) 22 rfl w.heap.size 3 i0 (.int .i64 0) 1 Try.underlying22 hi hz0 hz1 .i64 .i64 _ _ N rfl rfl rfl rfl (by rw [hz2]; omega) (by unfold maxLen; omega) (Nat.le_refl _) ?_; intro w1 hown hgrow)
      have b1 : Below w.heap.size w w1 := below_grown_none hgrow (Nat.le_refl _)
      have o1 : OwnI w1 w.heap.size (.slice (some ⟨w.heap.size, 0, none⟩) N N) (List.replicate N 0) := by
        have h := made_row (fun _ => 0) hown
        simpa [rowF, fmap] using h
      have hs1 := b1.size
      have hL0 : LaAt w1 w.heap.size S (.slice none 0 0) (.slice (some ⟨w.heap.size, 0, none⟩) N N) 0 := ⟨[], by rw [List.take_zero]; exact RowsP.nil _ _, fun _ => ⟨w.heap.size, Nat.le_refl _, hs1, by rw [HZ.out]; exact o1, (fun c e => by cases e), fun j hj => by simp at hj⟩⟩
      clear hown hgrow o1
      go_wp2_with fail
      go_loopw [4, 5, 6] (fun v u ok wr => ∃ k : Nat, k ≤ S.length ∧ ok = .bool (decide (k < S.length)) ∧ LaAt wr w.heap.size S v u k ∧ Below w.heap.size w wr) (fun v _ _ _ => S.length - sliceLen v)
      case atStart => exact ⟨0, Nat.zero_le _, by rw [decide_eq_true HP.out], hL0, b1⟩
      case round =>
        clear hL0 b1 hs1
        obtain ⟨k, hk, rfl, ⟨vl, hro, hnx⟩, hb⟩ := hrel
        have hbs := hb.size
        have hTL : (S.take k).length = k := by simp; omega
        obtain ⟨T, hT⟩ : ∃ T, T = S.take k := ⟨_, rfl⟩
        rw [← hT] at hro hTL hnx
        obtain ⟨av, cv, rfl⟩ := hro.o.form
        rw [hTL] at hro hnx ⊢
        have HTL := Lib.hid hTL
        by_cases hlt : k < S.length
        · obtain ⟨C, hC0, hC1, ho, hvC, hrC⟩ := hnx hlt
          have HTS : Hid (S.take (k+1) = T ++ [rowL S k]) := by rw [Hid, hT]; exact take_snoc hlt
          have hdk : decide (k < S.length) = true := decide_eq_true hlt
          have ⟨hr1, hr2⟩ := HROW.out k hlt
          have ⟨hn1, hn2⟩ := HNXT.out k hlt
          obtain ⟨R, hR⟩ : ∃ R, R = rowL S k := ⟨_, rfl⟩
          rw [← hR] at ho hr1 hr2 hn1 hn2 HTS
          obtain ⟨au, cu, rfl⟩ := ho.form
          have h63 : T.length ≤ 1048576 := by omega
          rw [hdk]
          have HRO := Lib.hid (And.intro hro (And.intro ho (And.intro hvC hrC)))
          have hcu := ho.capLe
          have HR := Lib.hid (And.intro hr2 (And.intro hn1 hn2))
          rw [hr1] at hcu ⊢
          have HRL := Lib.hid hr1
          clear hr1 hr2 hn1 hn2 hnx hdk hro ho hvC hrC hTL hR hT
          go_wp2_with (at_builtin; refine push_row (v := .slice av k cv) rfl _ _ rfl rfl HRO.out.1 (by rw [← HRL.out]; exact HRO.out.2.1) rfl h63 hC0 hC1 HRO.out.2.2.1 (by rw [HTL.out]; exact HRO.out.2.2.2) ?_; intro v2 w2 hro2 hb2)
          have oR : OwnI w2 C (.slice au R.length cu) R := HRO.out.2.1.kept hb2 (own_ne (fun c e e2 => by have h1 := HRO.out.2.2.1 c e2; have h2 := (HRO.out.2.1.lt c e).1; omega))
          have b2 := hb.trans (below_of_grown hb2 (fun c e => (HRO.out.1.o.lt c e).1) hbs)
          have hbs2 := b2.size
          have rR := oR.rd
          have HRO2 := Lib.hid hro2
          have hNx := iNext_any au R cu w2 rR (by rw [HRL.out]; exact hcu)
          rw [HRL.out] at hNx
          clear hro2 oR hb2
          go_wp2_with fail
          refine hNx.mono ?_
          rintro e w3 ⟨a3, c3, rfl, ho3, hb3⟩
          clear hNx
          rw [HR.out.2.1]
          have b3 := b2.trans (hb3.mono hbs2)
          have hro3 := HRO2.out.below hb3 (Nat.le_refl _)
          have hL : LaAt w3 w.heap.size S v2 (.slice a3 (nxL R).length c3) (k+1) := ⟨_, by rw [HTS.out]; exact hro3, fun hk2 => ⟨w2.heap.size, hbs2, hb3.size, by rw [← HR.out.2.2 hk2]; exact ho3, HRO2.out.blk.1, by rw [HTS.out]; exact HRO2.out.blk.2⟩⟩
          have hm : sliceLen v2 = k + 1 := by
            obtain ⟨a7, c7, e7⟩ := HRO2.out.o.form
            rw [e7, List.length_append, HTL.out]; rfl
          have HM := Lib.hid hm
          clear hm ho3
          go_wp2_with fail
          go_roundw
          case rel => exact ⟨k + 1, by omega, rfl, hL, b3⟩
          case measure =>
            rw [HM.out]
            show S.length - (k + 1) < S.length - k
            omega
        · obtain rfl : k = S.length := by omega
          have hdk : decide (S.length < S.length) = false := by simp
          rw [hdk]
          have HTT : Hid (T = S) := by rw [Hid, hT]; exact List.take_length
          clear hdk hnx hT hTL
          go_wp2_with fail
          refine bodyPost_ret (v := .tuple #[.slice av S.length cv, .bool true]) (by simp [results, Try.results22, go_sem]) rfl ?_
          first | exact ⟨av, cv, vl, by rw [H1.out, H2.out], by rw [H1.out, ← HTT.out, HTL.out]; exact hro, hb⟩ | exact ⟨av, cv, by rw [H1.out, H2.out], ⟨vl, by rw [H1.out, ← HTT.out, HTL.out]; exact hro⟩, hb⟩

def eqL (xs ys : List Int) : Bool := decide (xs = ys)
theorem eqIntS_any (a b : Option Addr) (xs ys : List Int) (ca cb : Nat) (w : World) (hx : Rd w a xs) (hy : Rd w b ys) :
    Calls Try.prog 14 #[.slice a xs.length ca, .slice b ys.length cb] w fun e w' => e = .returned (.bool (eqL xs ys)) ∧ Below w.heap.size w w' := by
  have hlx := hx.len
  have hly := hy.len
  by_cases hl : xs.length = ys.length
  · have hl' : ((xs.length : Int) != (ys.length : Int)) = false := by simp [hl]
    go_enter Try.func14, Try.ntmps14
    have HL := Lib.hid hl
    clear hl
    go_wp2_with fail
    go_loopw [5] (fun i wr => ∃ k : Nat, k ≤ xs.length ∧ i = .int .i64 k ∧ xs.take k = ys.take k ∧ Below w.heap.size w wr) (fun i _ => xs.length - (intOf i).toNat)
    case atStart => exact ⟨0, Nat.zero_le _, rfl, rfl, Below.refl _ _⟩
    case round =>
      obtain ⟨k, hk, rfl, htk, hb⟩ := hrel
      have HT := Lib.hid htk
      clear htk
      by_cases hlt : k < xs.length
      · have hlt' : k < ys.length := by rw [← HL.out]; exact hlt
        obtain ⟨b1, o1, rfl, hb1, hc1⟩ := (hx.below hb).cell k hlt
        obtain ⟨b2, o2, rfl, hb2, hc2⟩ := (hy.below hb).cell k hlt'
        by_cases he : nth xs k = nth ys k
        · have he' : (nth xs k != nth ys k) = false := by simp [he]
          have HE := Lib.hid he
          clear he
          go_wp2_with fail
          go_quiet (fail)
          go_wp2_with fail
          go_roundw
          case rel =>
            refine ⟨k + 1, by omega, by go_num, ?_, by exact hb.trans (Joins.below_draws _ _ _)⟩
            rw [List.take_succ_eq_append_getElem hlt, List.take_succ_eq_append_getElem hlt', HT.out, ← nth_get, ← nth_get, HE.out]
          case measure => simp [intOf]; omega
        · have he' : (nth xs k != nth ys k) = true := by simp [he]
          have hne : eqL xs ys = false := by
            simp only [eqL, decide_eq_false_iff_not]
            intro e
            subst e
            exact he rfl
          have HN := Lib.hid hne
          clear he hne
          go_wp2_with fail
          go_quiet (fail)
          go_wp2_with fail
          go_ret
          exact ⟨ret_bool HN.out.symm, hb.trans (Joins.below_draws _ _ _)⟩
      · go_wp2_with fail
        go_ret
        refine ⟨ret_bool ?_, hb⟩
        have h1 := HT.out
        rw [List.take_of_length_le (by omega), List.take_of_length_le (by rw [← HL.out]; omega)] at h1
        simp [eqL, h1]
  · have hl' : ((xs.length : Int) != (ys.length : Int)) = true := by simp; omega
    have hne : eqL xs ys = false := by
      simp only [eqL, decide_eq_false_iff_not]
      intro e
      exact hl (by rw [e])
    have HN := Lib.hid hne
    clear hl hne
    go_enter Try.func14, Try.ntmps14
    go_wp2_with fail
    go_ret
    exact ⟨ret_bool HN.out.symm, Below.refl _ _⟩
theorem eqL_self (xs : List Int) : eqL xs xs = true := by simp [eqL]

theorem eqIntSS_same (a b : Option Addr) (xss : List (List Int)) (ca cb : Nat) (w : World) (hx : RdS w a xss) (hy : RdS w b xss) :
    Calls Try.prog 23 #[.slice a xss.length ca, .slice b xss.length cb] w fun e w' => e = .returned (.bool true) ∧ Below w.heap.size w w' := by
  have hlen := hx.len
  go_enter Try.func23, Try.ntmps23
  go_wp2_with fail
  go_loopw [5] (fun i wr => ∃ k : Nat, k ≤ xss.length ∧ i = .int .i64 k ∧ Below w.heap.size w wr) (fun i _ => xss.length - (intOf i).toNat)
  case atStart => exact ⟨0, Nat.zero_le _, rfl, Below.refl _ _⟩
  case round =>
    obtain ⟨k, hk, rfl, hb⟩ := hrel
    by_cases hlt : k < xss.length
    · obtain ⟨b1, off1, a1, cap1, rfl, hbl1, hc1, hr1⟩ := (hx.below hb).row k hlt
      obtain ⟨b2, off2, a2, cap2, rfl, hbl2, hc2, hr2⟩ := (hy.below hb).row k hlt
      have k1 : (k : Int) < (xss.length : Int) := by omega
      have HE : Hid (eqL (rowL xss k) (rowL xss k) = true) := eqL_self _
      go_wp2_with fail
      go_region_held3 (fun w' => w'.cell? ⟨b1, off1 + k, none⟩ = some (.slice a1 (rowL xss k).length cap1) ∧ w'.cell? ⟨b2, off2 + k, none⟩ = some (.slice a2 (rowL xss k).length cap2))
        (first | exact ⟨(ht3.cell (p := ⟨b1, off1 + k, none⟩) hbl1).trans hc1, (ht3.cell (p := ⟨b2, off2 + k, none⟩) hbl2).trans hc2⟩ | go_keep)
        (first | (go_at_call 14; refine (eqIntS_any _ _ _ _ _ _ _ (hr1.below (Joins.below_draws _ _ _)) (hr2.below (Joins.below_draws _ _ _))).mono ?_; rw [HE.out]; rintro e w3 ⟨rfl, hb3⟩; have ht3 : Below wr.heap.size wr w3 := (Joins.below_draws _ _ _).trans hb3))
      have bw3 := hb.trans (ht3.mono hb.size)
      clear hb3 ht3 hc1 hc2
      go_wp2_with fail
      go_roundw
      case rel => exact ⟨k + 1, by omega, by go_num, bw3⟩
      case measure => simp [intOf]; omega
    · obtain rfl : k = xss.length := by omega
      go_wp2_with fail
      go_ret
      exact ⟨rfl, hb⟩

theorem markIntS_any (a : Option Addr) (xs : List Int) (cap : Nat) (k : Int) (B : Nat) (w : World) (h0 : 0 ≤ k) (h1 : k ≤ 1099511627776) (hn : xs.length ≤ 1048576) (ho : OwnI w B (.slice a xs.length cap) xs) :
    Calls Try.prog 19 #[.slice a xs.length cap, .int .i64 k] w fun e w' => e = .returned (.int .i64 (k + xs.length)) ∧ OwnI w' B (.slice a xs.length cap) (marks k xs.length) ∧ w.grownBy w' (Value.slice a xs.length cap).ownBlock := by
  go_enter Try.func19, Try.ntmps19
  go_wp2_with fail
  go_loopw [1, 5] (fun k' i wr => ∃ j : Nat, j ≤ xs.length ∧ i = .int .i64 j ∧ k' = .int .i64 (k + j) ∧ wr.ownsRow B 3 1 (.slice a xs.length cap) xs.length ((marks k j ++ xs.drop j).map (Value.int .i64)) ∧ w.grownBy wr (Value.slice a xs.length cap).ownBlock) (fun _ i _ => xs.length - (intOf i).toNat)
  case atStart => exact ⟨0, Nat.zero_le _, rfl, by simp, by (have e : marks k 0 ++ xs.drop 0 = xs := by simp [marks]); rw [e]; exact ho, World.grownBy.refl _ _⟩
  case round =>
    obtain ⟨j, hj, rfl, rfl, hown, hg⟩ := hrel
    by_cases hlt : j < xs.length
    · obtain ⟨g, rfl⟩ : ∃ g, a = some ⟨g, 0, none⟩ := by
        rcases hown.2 with ⟨e, h⟩ | ⟨g, c, cur, e, _⟩
        · omega
        · simp only [Value.slice.injEq] at e
          exact ⟨g, e.1⟩
      have hst := World.ownsRow.stored hown j (.int .i64 (k + j))
      rw [mark_step k xs j hlt] at hst
      have hcc := World.ownsRow.cellAt hown j (by omega)
      have hfr := World.ownsRow.frozenAt hown j
      have hcc' : ∃ u, wr.cell? ⟨g, j, none⟩ = some u := by
        rw [hcc]
        exact ⟨_, List.getElem?_eq_getElem (by simp [marks_len]; omega)⟩
      obtain ⟨u, hu⟩ := hcc'
      have Hst := Lib.hid hst
      have Hg := Lib.hid (grown_trans hg hst.2)
      clear hst hcc hown hg
      go_wp2
      go_roundw
      case rel => exact ⟨j + 1, by omega, by go_num, by go_num, Hst.out.1, Hg.out⟩
      case measure => simp [intOf]; omega
    · obtain rfl : j = xs.length := by omega
      go_wp2
      go_ret
      refine ⟨rfl, ?_, hg⟩
      have e : marks k xs.length ++ xs.drop xs.length = marks k xs.length := by simp
      rw [e] at hown
      show World.ownsRow _ _ _ _ _ _ _
      rw [marks_len]
      exact hown

set_option maxRecDepth 100000 in
theorem markSS_any (a : Option Addr) (n cap : Nat) (vl : List Value) (xss : List (List Int)) (k : Int) (B : Nat) (w : World) (hnl : n = xss.length) (h0 : 0 ≤ k) (h1 : k ≤ 1048576) (hn : xss.length + totS xss xss.length ≤ 1048576) (ho : RowsP w B (.slice a n cap) vl xss) (hBw : B ≤ w.heap.size) :
    Calls Try.prog 24 #[.slice a n cap, .int .i64 k] w fun e w' => e = .returned (.int .i64 (k + ((totS xss xss.length : Nat) : Int))) ∧ RowsP w' B (.slice a n cap) vl (mkS xss k) ∧ Below B w w' := by
  subst hnl
  have HO := Lib.hid ho
  have hmax : xss.length ≤ 1048576 := by omega
  go_enter Try.func24, Try.ntmps24
  clear ho
  go_wp2_with fail
  go_loopw [1, 5] (fun k' i wr => ∃ j : Nat, j ≤ xss.length ∧ i = .int .i64 j ∧ k' = .int .i64 (k + ((totS xss j : Nat) : Int)) ∧ Below B w wr ∧ wr.ownsRow B 22 1 (.slice a xss.length cap) xss.length vl ∧ Hid (∀ i, i < xss.length → OwnI wr B (valAt vl i) (if i < j then rowL (mkS xss k) i else rowL xss i))) (fun _ i _ => xss.length - (intOf i).toNat)
  case atStart => exact ⟨0, Nat.zero_le _, rfl, by simp [totS], Below.refl _ _, HO.out.o.own, fun i hi => by rw [if_neg (by omega)]; exact HO.out.o.row i hi⟩
  case round =>
    obtain ⟨j, hj, rfl, rfl, hb, hown, HA⟩ := hrel
    by_cases hlt : j < xss.length
    · have hoj := HA.out j hlt
      rw [if_neg (by omega)] at hoj
      have hrt := row_tot (xss := xss) hlt
      have hmn := totS_mono (xss := xss) (j := j) (k := xss.length) (by omega)
      have HN : Hid (totS xss (j+1) = totS xss j + (rowL xss j).length) := rfl
      have k1 : (j : Int) < (xss.length : Int) := by omega
      have hvl := HO.out.o.vlen
      have hcj : ∃ g, a = some ⟨g, 0, none⟩ ∧ wr.cell? ⟨g, j, none⟩ = some (valAt vl j) ∧ g < wr.heap.size := by
        rcases hown.2 with ⟨e, h00⟩ | ⟨g, cap', cur, e, hbg, hg, _⟩
        · omega
        · simp only [Value.slice.injEq] at e
          obtain ⟨rfl, _, rfl⟩ := e
          exact ⟨g, rfl, by rw [World.ownsRow.cellAt hown j (by omega), valAt_get (by omega)], (Array.getElem?_eq_some_iff.1 hg).1⟩
      obtain ⟨g, rfl, hc, hgl⟩ := hcj
      have HAP := Lib.hid (HO.out.o.apart j hlt)
      have HPR := Lib.hid (fun i (hi : i < xss.length) (hne : i ≠ j) c (hc : (valAt vl j).ownBlock = some c) (hc2 : (valAt vl i).ownBlock = some c) => show False from by
        rcases Nat.lt_or_gt_of_ne hne with h | h
        · exact HO.out.pair i j h hlt c hc2 hc
        · exact HO.out.pair j i h hi c hc hc2)
      obtain ⟨vj, hvj⟩ : ∃ vj, vj = valAt vl j := ⟨_, rfl⟩
      have HVJ := Lib.hid hvj
      rw [← hvj] at hc hoj HAP HPR
      clear hvj hvl
      obtain ⟨aj, capj, rfl⟩ := hoj.form
      have hro : (rowL xss j).length ≤ 1048576 := by omega
      go_wp2_with fail
      refine (markIntS_any _ _ _ _ _ _ (by omega) (by omega) hro hoj).mono ?_
      rintro e w2 ⟨rfl, ho2, hg2⟩
      have hU := hoj.lt
      have b2 := hb.trans (below_of_grown hg2 (fun c e => (hU c e).1) (by have := hb.size; omega))
      have own2 : w2.ownsRow B 22 1 (.slice (some ⟨g, 0, none⟩) xss.length cap) xss.length vl := World.ownsRow.kept hown hg2 (own_ne (fun c e e2 => HAP.out c e2 e))
      have HA2 : Hid (∀ i, i < xss.length → OwnI w2 B (valAt vl i) (if i < j + 1 then rowL (mkS xss k) i else rowL xss i)) := by
        intro i hi
        by_cases e : i = j
        · subst e
          rw [if_pos (by omega), mkS_row hi, ← HVJ.out]
          exact ho2
        · have h3 := HA.out i hi
          have h4 : OwnI w2 B (valAt vl i) (if i < j then rowL (mkS xss k) i else rowL xss i) := h3.kept hg2 (own_ne (fun c e1 e2 => HPR.out i hi e c e2 e1))
          by_cases e5 : i < j
          · rw [if_pos e5] at h4
            rw [if_pos (by omega)]; exact h4
          · rw [if_neg e5] at h4
            rw [if_neg (by omega)]; exact h4
      clear ho2 hg2 hown
      go_wp2_with fail
      go_roundw
      case rel => exact ⟨j + 1, by omega, by go_num, val_int (by rw [HN.out]; omega), b2, own2, HA2⟩
      case measure => simp [intOf]; omega
    · obtain rfl : j = xss.length := by omega
      go_wp2_with fail
      go_ret
      refine ⟨rfl, ⟨⟨by rw [mkS_len]; exact hown, fun i hi => ?_, fun i hi => ?_⟩, fun i j h1 h2 => ?_⟩, hb⟩
      · rw [mkS_len] at hi
        have := HA.out i hi
        rw [if_pos hi] at this; exact this
      · rw [mkS_len] at hi
        exact HO.out.o.apart i hi
      · rw [mkS_len] at h2
        exact HO.out.pair i j h1 h2

theorem heldIntS_any (a : Option Addr) (n cap : Nat) (k : Int) (w : World) (h0 : 0 ≤ k) (h1 : k ≤ 1099511627776) (hn : n ≤ 1048576) (hx : Rd w a (marks k n)) :
    Calls Try.prog 20 #[.slice a n cap, .int .i64 k] w fun e w' => e = .returned (.int .i64 (k + n)) ∧ Below w.heap.size w w' := by
  go_enter Try.func20, Try.ntmps20
  go_wp2_with fail
  go_loop [1, 5] (fun k' i => ∃ j : Nat, j ≤ n ∧ i = .int .i64 j ∧ k' = .int .i64 (k + j)) (fun _ i => n - (intOf i).toNat)
  case atStart => exact ⟨0, Nat.zero_le _, rfl, by simp⟩
  case round =>
    obtain ⟨j, hj, rfl, rfl⟩ := hrel
    by_cases hlt : j < n
    · obtain ⟨b, off, rfl, hbl, hc⟩ := hx.cell j (by rw [marks_len]; exact hlt)
      rw [marks_nth hlt] at hc
      go_wp2_with fail
      go_round
      case rel => exact ⟨j + 1, by omega, by go_num, by go_num⟩
      case measure => simp [intOf]; omega
    · obtain rfl : j = n := by omega
      go_wp2_with fail
      go_ret
      exact ⟨rfl, (by repeat (first | exact Below.refl _ _ | assumption | refine Below.alloc ?_ (by first | exact Nat.le_refl _ | (simp only [World.size_alloc, World.size_setCell, World.size_drew]; omega) | omega) _ | refine Below.setCell ?_ (by first | exact Nat.le_refl _ | (simp only [World.size_alloc, World.size_setCell, World.size_drew]; omega) | omega) _ | refine Below.drew ?_))⟩

set_option maxRecDepth 100000 in
theorem heldSS_any (a : Option Addr) (n cap : Nat) (xss : List (List Int)) (k : Int) (w : World) (hnl : n = xss.length) (h0 : 0 ≤ k) (h1 : k ≤ 1048576) (hn : xss.length + totS xss xss.length ≤ 1048576) (hx : RdS w a (mkS xss k)) :
    Calls Try.prog 25 #[.slice a n cap, .int .i64 k] w fun e w' => e = .returned (.int .i64 (k + ((totS xss xss.length : Nat) : Int))) ∧ Below w.heap.size w w' := by
  subst hnl
  have hmax : xss.length ≤ 1048576 := by omega
  go_enter Try.func25, Try.ntmps25
  go_wp2_with fail
  go_loopw [1, 5] (fun k' i wr => ∃ j : Nat, j ≤ xss.length ∧ i = .int .i64 j ∧ k' = .int .i64 (k + ((totS xss j : Nat) : Int)) ∧ Below w.heap.size w wr) (fun _ i _ => xss.length - (intOf i).toNat)
  case atStart => exact ⟨0, Nat.zero_le _, rfl, by simp [totS], Below.refl _ _⟩
  case round =>
    obtain ⟨j, hj, rfl, rfl, hb⟩ := hrel
    by_cases hlt : j < xss.length
    · have hrt := row_tot (xss := xss) hlt
      have hmn := totS_mono (xss := xss) (j := j) (k := xss.length) (by omega)
      have HN : Hid (totS xss (j+1) = totS xss j + (rowL xss j).length) := rfl
      have k1 : (j : Int) < (xss.length : Int) := by omega
      obtain ⟨b1, off1, a1, cap1, rfl, hbl1, hc1, hr1⟩ := (hx.below hb).row j (by rw [mkS_len]; exact hlt)
      rw [mkS_row hlt] at hc1 hr1
      have hml : (marks (k + ((totS xss j : Nat) : Int)) (rowL xss j).length).length = (rowL xss j).length := by simp [marks]
      rw [hml] at hc1
      clear hml
      have hro : (rowL xss j).length ≤ 1048576 := by omega
      have hcall := heldIntS_any a1 (rowL xss j).length cap1 (k + ((totS xss j : Nat) : Int)) wr (by omega) (by omega) hro hr1
      have HCL := Lib.hid hcall
      have hge : ¬ (k + ((totS xss j : Nat) : Int) + (((rowL xss j).length : Nat) : Int) < 0) := by omega
      have hbs := hb.size
      clear hcall hr1
      go_wp2_with fail
      refine HCL.out.mono ?_
      rintro e w2 ⟨rfl, hb2⟩
      go_wp2_with fail
      go_roundw
      case rel => exact ⟨j + 1, by omega, by go_num, val_int (by rw [HN.out]; omega), hb.trans (hb2.mono hbs)⟩
      case measure => simp [intOf]; omega
    · obtain rfl : j = xss.length := by omega
      go_wp2_with fail
      go_ret
      exact ⟨rfl, hb⟩

theorem walk (i0 : Int) (w : World) (hi0 : -9223372036854775808 ≤ i0 ∧ i0 ≤ 9223372036854775807) :
    Calls Try.prog 6 #[.int .i64 i0] w fun e w' => e = .returned (.bool true) ∧ Below w.heap.size w w' := by
  have hT := laL_len i0
  go_enter Try.func6, Try.ntmps6
  go_wp2_with fail
  refine (sListAscO_any _ _ hi0).mono ?_
  rintro e w1 ⟨pR, qR, vR, rfl, hR1, hb⟩
  have bw1 : Below w.heap.size w w1 := Below.trans (by repeat (first | exact Below.refl _ _ | assumption | refine Below.alloc ?_ (by first | exact Nat.le_refl _ | (simp only [World.size_alloc, World.size_setCell, World.size_drew]; omega) | omega) _ | refine Below.setCell ?_ (by first | exact Nat.le_refl _ | (simp only [World.size_alloc, World.size_setCell, World.size_drew]; omega) | omega) _ | refine Below.drew ?_)) (hb.mono (by first | (simp only [World.size_alloc, World.size_setCell, World.size_drew]; omega) | omega))
  clear hb
  go_wp2_with fail
  refine (iListAsc_any _ _ hi0).mono ?_
  rintro e w2 ⟨pG, qG, vG, rfl, hG2, hb⟩
  have hR2 := hR1.rd.below hb
  have bw2 : Below w.heap.size w w2 := bw1.trans (hb.mono bw1.size)
  have z12 := hb.size
  have hgr := hb
  clear hb
  go_wp2_with fail
  refine (eqIntSS_same _ _ (laL i0) _ _ _ hG2.o.rd hR2).mono ?_
  rintro e w3 ⟨rfl, hb⟩
  have hG3 := hG2.below hb (Nat.le_refl _)
  have hg3 : Below w1.heap.size w1 w3 := hgr.trans (hb.mono z12)
  have bw3 : Below w.heap.size w w3 := bw2.trans (hb.mono bw2.size)
  have z3 := hg3.size
  clear hb hG2 hR2 hgr
  go_wp2_with fail
  refine (markSS_any _ _ _ _ (laL i0) 1 w1.heap.size _ rfl (by omega) (by omega) hT hG3 z3).mono ?_
  rintro e w4 ⟨rfl, hG4, hb⟩
  have hg4 : Below w1.heap.size w1 w4 := hg3.trans hb
  have hR4 := hR1.rd.below hg4
  have bw4 : Below w.heap.size w w4 := bw3.trans (hb.mono bw1.size)
  have hM4 := hG4.o.rd
  clear hb hG3 hG4 hg3 hg4
  go_wp2_with fail
  refine (heldSS_any _ _ _ (laL i0) 1 _ rfl (by omega) (by omega) hT hM4).mono ?_
  rintro e w5 ⟨rfl, hb⟩
  have hM5 := hM4.below hb
  have hR5 := hR4.below hb
  have bw5 : Below w.heap.size w w5 := bw4.trans (hb.mono bw4.size)
  clear hb hM4 hR4
  go_wp2_with fail
  refine (iListAsc_any _ _ hi0).mono ?_
  rintro e w6 ⟨pH, qH, vH, rfl, hH6, hb⟩
  have hM6 := hM5.below hb
  have hR6 := hR5.below hb
  have bw6 : Below w.heap.size w w6 := bw5.trans (hb.mono bw5.size)
  clear hb hM5 hR5
  go_wp2_with fail
  refine (eqIntSS_same _ _ (laL i0) _ _ _ hH6.o.rd hR6).mono ?_
  rintro e w7 ⟨rfl, hb⟩
  have hM7 := hM6.below hb
  have bw7 : Below w.heap.size w w7 := bw6.trans (hb.mono bw6.size)
  clear hb hM6 hR6 hH6
  go_wp2_with fail
  refine (heldSS_any _ _ _ (laL i0) 1 _ rfl (by omega) (by omega) hT hM7).mono ?_
  rintro e w8 ⟨rfl, hb⟩
  have bw8 : Below w.heap.size w w8 := bw7.trans (hb.mono bw7.size)
  clear hb hM7
  go_wp2_with fail
  go_ret
  exact ⟨rfl, bw8⟩

theorem rd_of_trod {H : Type} {enc : TypeId × Value → H} {W : World} {fuel : Nat} {c : Value} {y : DataW H × List MemPlace}
    (h : DataW.trod enc Try.prog W 0 (fun _ => true) true fuel 22 [c] = some y) : ∃ (a : Option Addr) (xs : List Int) (cap : Nat), c = .slice a xs.length cap ∧ Rd W a xs ∧ ∀ k, k < xs.length → (Lit.int .i64 (nth xs k)).wf = true := by
  rcases Go.ChangeShapes.open_ints Try.underlying22 Try.underlying3 (by kernel_rfl) h with ⟨hcs, _⟩ | ⟨x, len, cap, zs, hcs, _, hl, hm, hz, _, hcell, hwf⟩
  · simp only [List.cons.injEq, and_true] at hcs
    exact ⟨none, [], 0, hcs, ⟨by simp, fun k hk => by simp at hk⟩, fun k hk => by simp at hk⟩
  · simp only [List.cons.injEq, and_true] at hcs
    simp only [if_true] at hz
    have hlen : (zs.take len).length = len := by rw [List.length_take]; omega
    have hn : ∀ k, k < len → nth (zs.take len) k = zs.getD k 0 := by
      intro k hk
      simp only [nth, List.getD_eq_getElem?_getD, List.getElem?_take, hk, if_true]
    refine ⟨some x, zs.take len, cap, by rw [hlen]; exact hcs, ⟨by rw [hlen]; unfold maxLen at hm; omega, fun k hk => ?_⟩, fun k hk => ?_⟩
    · rw [hlen] at hk
      obtain ⟨b, off, sp⟩ := x
      have h0 := hcell 0 (by omega)
      have hsp : sp = none := by simpa [Addr.add] using World.cell?_spot h0
      subst hsp
      have hk' := hcell k (by omega)
      rw [Addr.add_lit] at hk'
      exact ⟨b, off, rfl, World.block_lt_of_cell? _ _ h0, by rw [hk', hn k hk]⟩
    · rw [hlen] at hk
      rw [hn k hk]
      have hk2 : k < zs.length := by omega
      exact hwf _ (by rw [List.getD_eq_getElem?_getD, List.getElem?_eq_getElem hk2]; exact List.getElem_mem hk2)

theorem own : ownKnob Try.prog.godebug = none := by kernel_rfl
theorem laidOut : laidOutB Try.prog = true := by kernel_rfl
theorem wf_bd {n : Int} (h : (Lit.int .i64 n).wf = true) : -9223372036854775808 ≤ n ∧ n ≤ 9223372036854775807 := by
  simp [Lit.wf, IntKind.min, IntKind.max, IntKind.bits, IntKind.signed] at h
  omega

open Go.ChangeShapes Go.WideShapes Go.ChangeAt Go.RowKit in
set_option maxRecDepth 100000 in
theorem lifted (os : Os) (started : os.Started) (H : Type) (enc : TypeId × Value → H) :
    ReturnsInHanded {} Try.checked os 6 .any (Rows.fnExactListAscentsSpec.pre6 enc Try.prog Try.f6 Rows.fnExactListAscentsRow.domain false) (Rows.fnExactListAscentsSpec.post enc Try.prog Try.f6 false true false false) := by
  refine returnsInHanded_of_change (C := Try.checked) own started (by kernel_rfl) Try.func6
    (ChangeSpec.witness6 (enc := enc) (C := Try.checked) false ⟨#[], #[.int .i64 0], []⟩ 8 (by kernel_rfl) (by kernel_rfl) (by kernel_rfl) (by kernel_rfl)) ?_
  intro W base args ds gs before hval0 hW hcnd _
  have hval : ∀ (j : Nat) t v, Try.f6.params[j]? = some t → args[j]? = some v → Value.okWide Try.prog W .any base t v := hval0
  have hW' := hW
  obtain ⟨p, q, hA0, hV, rfl, hfz, hnd⟩ := hW
  have hA : DataW.TrodAll enc Try.prog W 0 (fun _ => true) true Try.f6.params.toList args.toList ds p := hA0
  rw [Try.params6] at hA hval
  obtain ⟨v0, vs0, d0, ds0, p0, q0, hargs, rfl, rfl, h0, r0⟩ := trodAll_cons hA
  obtain ⟨rfl, rfl, rfl⟩ := trodAll_nil r0
  obtain rfl : args = #[v0] := by cases args; simp_all
  obtain ⟨rfl, rfl⟩ := trodVars_none hV
  have lt0 : ∀ x ∈ p0, x.block < W.heap.size := by obtain ⟨m, hm⟩ := h0; exact DataW.trod_lt m _ _ _ hm
  obtain ⟨i0, rfl, hd0, hp0, wf0⟩ := open_int Try.underlying3 (hval 0 3 v0 rfl rfl) h0
  clear hA0 hval0
  refine (walk i0 W (wf_bd wf0)).mono fun e W' ⟨he, bel⟩ => ?_
  subst he
  exact ⟨_, rfl, _, _, _, [], _, [], hW', trodAll_mk1 (shut_bool Try.underlying4 _), (trodAll_cons_mk (Below.trod laidOut (by kernel_rfl) (of_decide_eq_true (by kernel_rfl)) h0 bel lt0) trodAll_mk0), rfl, bel.frame _, fun h => by cases h⟩
theorem proved : Rows.FnExactListAscentsSaid :=
  OpenClaim.holds_of_wide 6 Try.f6 rfl rfl rfl rfl rfl rfl rfl ⟨rfl, rfl, rfl, rfl, rfl⟩ rfl rfl rfl rfl rfl (by kernel_rfl) Try.func6 (by kernel_rfl)
    (of_decide_eq_true (by kernel_rfl)) (by unfold Func.isWrapper; first | (rw [if_pos (by decide +kernel)]; kernel_rfl) | (rw [if_neg (by decide +kernel)]; exact ⟨rfl, rfl⟩))
    (fun os started H enc _ => lifted os started H enc)

end Go.Proofs.Ytkhilginiahebaa.listAscents
