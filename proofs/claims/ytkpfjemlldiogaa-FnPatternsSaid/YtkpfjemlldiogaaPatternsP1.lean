/- A part of the proof of YtkpfjemlldiogaaPatterns: contracts of functions. -/
import Derived.Test.YtkpfjemlldiogaaRows
import Derived.WalkKit
import Derived.WalkSpells
import Derived.WalkLawsBesides
import Derived.Deep.QuietTactic
import Derived.BigQuiet
import Derived.ProofKit
import Derived.OpenShut
import Derived.ShutString
import Derived.ChangeOld
import Derived.Below
import Derived.Lib.SmallJoins
import Derived.Lib.Hide
import Derived.Maps.AppendAt
import Derived.Deep.AppendLies
import Derived.Deep.RegionHeld3
import Derived.Deep.DeepCutAuto
import Derived.StillTail
import Derived.Laws.MakeOwn
import Derived.Laws.OwnMore
import Derived.Deep.RegionLaw
namespace Go.Proofs.Ytkpfjemlldiogaa.patterns
open Go Go.RowKit
set_option linter.unusedVariables false
set_option linter.unusedSimpArgs false
set_option maxHeartbeats 400000


/-- a number of a list; a plain function, which the walk leaves alone -/
def nth (xs : List Int) (k : Nat) : Int := xs.getD k 0
theorem nth_get (xs : List Int) (k : Nat) (h : k < xs.length) : nth xs k = xs[k] := by simp [nth, h]
/-- the slice at an address reads as a list -/
structure Rd (w : World) (a : Option Addr) (xs : List Int) : Prop where
  len : xs.length ≤ 9223372036854775807
  cell : ∀ k, k < xs.length → ∃ b off, a = some ⟨b, off, none⟩ ∧ b < w.heap.size ∧ w.cell? ⟨b, off + k, none⟩ = some (.int .i64 (nth xs k))
theorem Rd.below {w w' : World} {a : Option Addr} {xs : List Int} (h : Rd w a xs) (hb : Below w.heap.size w w') : Rd w' a xs :=
  ⟨h.len, fun k hk => by
    obtain ⟨b, off, e, hl, hc⟩ := h.cell k hk
    exact ⟨b, off, e, Nat.lt_of_lt_of_le hl hb.size, (hb.cell (World.block_lt_of_cell? _ _ hc)).trans hc⟩⟩
theorem Rd.mid {w w1 w2 : World} {a : Option Addr} {xs : List Int} {B : Nat} (h : Rd w a xs) (hb : Below B w1 w2) (hB : w.heap.size ≤ B) (h1 : Rd w1 a xs) : Rd w2 a xs :=
  ⟨h.len, fun k hk => by
    obtain ⟨b, off, e, hl, hc⟩ := h.cell k hk
    obtain ⟨b', off', e', hl', hc'⟩ := h1.cell k hk
    rw [e] at e'
    simp only [Option.some.injEq, Addr.mk.injEq, and_true] at e'
    obtain ⟨rfl, rfl⟩ := e'
    exact ⟨b, off, e, Nat.lt_of_lt_of_le hl' hb.size, (hb.cell (by show b < B; omega)).trans hc'⟩⟩
theorem Rd.alloc {w : World} {a : Option Addr} {xs : List Int} (h : Rd w a xs) (o : Obj) : Rd (w.alloc o) a xs :=
  h.below ((Below.refl _ _).alloc (Nat.le_refl _) o)
theorem Rd.same {w w' : World} {a : Option Addr} {xs : List Int} (h : Rd w a xs) (hs : w.heap.size ≤ w'.heap.size)
    (hb : ∀ b off, a = some ⟨b, off, none⟩ → w'.heap[b]? = w.heap[b]?) : Rd w' a xs :=
  ⟨h.len, fun k hk => by
    obtain ⟨b, off, e, hl, hc⟩ := h.cell k hk
    exact ⟨b, off, e, Nat.lt_of_lt_of_le hl hs, (World.cell?_of_block (w := w) (a := ⟨b, off + k, none⟩) (hb b off e)).trans hc⟩⟩
/-- a slice value that owns the row of these integers, in a block from B on -/
def OwnI (w : World) (B : Nat) (v : Value) (xs : List Int) : Prop := w.ownsRow B 3 1 v xs.length (xs.map (Value.int .i64))
theorem OwnI.form {w : World} {B : Nat} {v : Value} {xs : List Int} (h : OwnI w B v xs) : ∃ a cap, v = .slice a xs.length cap := by
  rcases h.2 with ⟨rfl, h0⟩ | ⟨g, cap, cur, rfl, _⟩
  · exact ⟨none, 0, by rw [h0]⟩
  · exact ⟨_, _, rfl⟩
theorem OwnI.rd {w : World} {B n cap : Nat} {a : Option Addr} {xs : List Int} (h : OwnI w B (.slice a n cap) xs) : Rd w a xs := by
  rcases h.2 with ⟨e, h0⟩ | ⟨g, cap', cur, e, hb, hg, hn, hm, hs, ht⟩
  · exact ⟨by omega, fun k hk => by omega⟩
  · simp only [Value.slice.injEq] at e
    obtain ⟨rfl, rfl, rfl⟩ := e
    refine ⟨by unfold maxLen at hm; omega, fun k hk => ⟨g, 0, rfl, (Array.getElem?_eq_some_iff.1 hg).1, ?_⟩⟩
    have := World.ownsRow.cellAt h k (by omega)
    rw [Nat.zero_add, this]
    simp [nth, hk]
theorem OwnI.blk {w : World} {B n cap : Nat} {a : Option Addr} {xs : List Int} (h : OwnI w B (.slice a n cap) xs) : ∀ b off s, a = some ⟨b, off, s⟩ → B ≤ b ∧ b < w.heap.size := by
  intro b off s e
  subst e
  exact World.ownsRow.lt h b rfl
theorem OwnI.kept {w w' : World} {B : Nat} {v : Value} {xs : List Int} {row : Option Nat} (h : OwnI w B v xs) (hg : w.grownBy w' row) (hne : v.ownBlock = none ∨ v.ownBlock ≠ row) : OwnI w' B v xs := World.ownsRow.kept h hg hne
theorem OwnI.mono {w : World} {B B' : Nat} {v : Value} {xs : List Int} (h : OwnI w B v xs) (hB : B' ≤ B) : OwnI w B' v xs := by
  refine ⟨h.1, ?_⟩
  rcases h.2 with hn | ⟨g, cap, cur, e, hb, rest⟩
  · exact .inl hn
  · exact .inr ⟨g, cap, cur, e, by omega, rest⟩
theorem OwnI.below {w w' : World} {B B' : Nat} {v : Value} {xs : List Int} (h : OwnI w B v xs) (hb : Below B' w w') (hB : w.heap.size ≤ B') : OwnI w' B v xs := by
  refine ⟨h.1, ?_⟩
  rcases h.2 with hn | ⟨g, cap, cur, e, hb', hg, rest⟩
  · exact .inl hn
  · refine .inr ⟨g, cap, cur, e, hb', ?_, rest⟩
    rw [hb.block g (by have := (Array.getElem?_eq_some_iff.1 hg).1; omega)]
    exact hg
theorem ret_bool {a b : Bool} (h : a = b) : Ending.returned (.bool a) = .returned (.bool b) := by rw [h]
theorem ret_int {a b : Int} (h : a = b) : Ending.returned (.int .i64 a) = .returned (.int .i64 b) := by rw [h]
theorem val_int {a b : Int} (h : a = b) : Value.int .i64 a = .int .i64 b := by rw [h]
theorem grown_below {w w' : World} {g : Nat} (h : w.grownBy w' (some g)) (B : Nat) (hB : B ≤ g) (hs : B ≤ w.heap.size) : Below B w w' :=
  ⟨h.os, h.tape, h.output, h.size, fun k hk => h.block k (by omega) (by intro e; simp only [Option.some.injEq] at e; omega)⟩
theorem below_grown {w w' : World} {B : Nat} (h : Below B w w') (hB : w.heap.size ≤ B) (row : Option Nat) : w.grownBy w' row :=
  ⟨h.os, h.tape, h.output, h.size, fun k hk _ => h.block k (by omega)⟩
theorem bcell {W w1 : World} (hb : Below W.heap.size W w1) : (∀ b o, b < W.heap.size → w1.cell? ⟨b, o, none⟩ = W.cell? ⟨b, o, none⟩) ∧ (∀ b o, b < W.heap.size → w1.frozen? ⟨b, o, none⟩ = W.frozen? ⟨b, o, none⟩) :=
  ⟨fun b o h => hb.cell (p := ⟨b, o, none⟩) h, fun b o h => hb.frozen (p := ⟨b, o, none⟩) h⟩
theorem infoInt : (Try.prog.info? 3).map (fun i => (i.zero, i.size, i.bytes)) = some (some (.int .i64 0), 1, 8) := by kernel_rfl
theorem OwnI.setBelow {w : World} {B : Nat} {v : Value} {xs : List Int} (h : OwnI w B v xs) {p : Addr} (hp : p.block < B) (u : Value) : OwnI (w.setCell p u) B v xs := ownsRow_setCell_below h hp u
theorem OwnI.alloc {w : World} {B : Nat} {v : Value} {xs : List Int} (h : OwnI w B v xs) (o : Obj) : OwnI (w.alloc o) B v xs := h.below ((Below.refl _ _).alloc (Nat.le_refl _) o) (Nat.le_refl _)
theorem Below.mono' {B B' : Nat} {w w' : World} (h : Below B w w') (hB : B' ≤ B) : Below B' w w' := h.mono hB
/-- a block that holds two cells -/
def Box2 (w : World) (b : Nat) (u v : Value) : Prop := b < w.heap.size ∧ w.cell? ⟨b, 0, none⟩ = some u ∧ w.cell? ⟨b, 1, none⟩ = some v
theorem Box2.below {w w' : World} {b : Nat} {u v : Value} (h : Box2 w b u v) (hb : Below w.heap.size w w') : Box2 w' b u v :=
  ⟨Nat.lt_of_lt_of_le h.1 hb.size, (hb.cell (p := ⟨b, 0, none⟩) h.1).trans h.2.1, (hb.cell (p := ⟨b, 1, none⟩) h.1).trans h.2.2⟩
theorem Box2.new (w : World) (u v : Value) (t : TypeId) : Box2 (w.alloc (.cells #[u, v] t)) w.heap.size u v :=
  ⟨by simp, by simp, by simp⟩
theorem Box2.kept {w w' : World} {b : Nat} {u v : Value} {row : Option Nat} (h : Box2 w b u v) (hg : w.grownBy w' row) (hne : some b ≠ row) : Box2 w' b u v :=
  ⟨Nat.lt_of_lt_of_le h.1 hg.size, hg.cell h.2.1 hne, hg.cell h.2.2 hne⟩
theorem OwnI.lt {w : World} {B : Nat} {v : Value} {xs : List Int} (h : OwnI w B v xs) : ∀ b, v.ownBlock = some b → B ≤ b ∧ b < w.heap.size := World.ownsRow.lt h
theorem OwnI.cut {w : World} {B : Nat} {v : Value} {xs : List Int} (h : OwnI w B v xs) {U : Nat} (hU : w.heap.size ≤ U) : ∀ b, v.ownBlock = some b → B ≤ b ∧ b < U := fun b e => ⟨(h.lt b e).1, Nat.lt_of_lt_of_le (h.lt b e).2 hU⟩
/-- a block of two cells that may be written -/
def Var2 (w : World) (b : Nat) (u v : Value) : Prop := Box2 w b u v ∧ w.frozen? ⟨b, 0, none⟩ = false ∧ w.frozen? ⟨b, 1, none⟩ = false
theorem Var2.below {w w' : World} {b : Nat} {u v : Value} (h : Var2 w b u v) (hb : Below w.heap.size w w') : Var2 w' b u v :=
  ⟨h.1.below hb, (hb.frozen (p := ⟨b, 0, none⟩) h.1.1).trans h.2.1, (hb.frozen (p := ⟨b, 1, none⟩) h.1.1).trans h.2.2⟩
theorem Var2.new (w : World) (u v : Value) (t : TypeId) : Var2 (w.alloc (.cells #[u, v] t)) w.heap.size u v :=
  ⟨Box2.new w u v t, by simp, by simp⟩
theorem Var2.alloc {w : World} {b : Nat} {u v : Value} (h : Var2 w b u v) (o : Obj) : Var2 (w.alloc o) b u v := h.below ((Below.refl _ _).alloc (Nat.le_refl _) o)
theorem Var2.kept {w w' : World} {b : Nat} {u v : Value} {row : Option Nat} (h : Var2 w b u v) (hg : w.grownBy w' row) (hne : some b ≠ row) : Var2 w' b u v :=
  ⟨h.1.kept hg hne, (World.frozen?_of_block (w := w) (a := ⟨b, 0, none⟩) (hg.block b h.1.1 hne)).trans h.2.1, (World.frozen?_of_block (w := w) (a := ⟨b, 1, none⟩) (hg.block b h.1.1 hne)).trans h.2.2⟩
theorem Var2.set {w : World} {b : Nat} {u v : Value} (h : Var2 w b u v) (u' v' : Value) : Var2 ((w.setCell ⟨b, 0, none⟩ u').setCell ⟨b, 1, none⟩ v') b u' v' := by
  refine ⟨⟨by simpa using h.1.1, ?_, ?_⟩, by simpa using h.2.1, by simpa using h.2.2⟩
  · rw [World.cell?_setCell_other _ _ _ _ (by simp), World.cell?_setCell_same _ _ _ h.1.2.1]
  · rw [World.cell?_setCell_same _ _ _ (u := v) (by rw [World.cell?_setCell_other _ _ _ _ (by simp)]; exact h.1.2.2)]
theorem grown_set (w : World) (p : Addr) (u : Value) : w.grownBy (w.setCell p u) (some p.block) :=
  ⟨rfl, rfl, rfl, by simp, fun k hk hn => Below.heap_setCell w p u k (fun e => hn (by rw [e]))⟩
theorem Var2.set1 {w : World} {b : Nat} {u v : Value} (h : Var2 w b u v) (v' : Value) : Var2 (w.setCell ⟨b, 1, none⟩ v') b u v' := by
  refine ⟨⟨by simpa using h.1.1, ?_, ?_⟩, by simpa using h.2.1, by simpa using h.2.2⟩
  · rw [World.cell?_setCell_other _ _ _ _ (by simp)]; exact h.1.2.1
  · rw [World.cell?_setCell_same _ _ _ h.1.2.2]
theorem Box2.set {w : World} {b : Nat} {u v : Value} (h : Box2 w b u v) {p : Addr} (x : Value) (hne : b ≠ p.block) : Box2 (w.setCell p x) b u v :=
  h.kept (grown_set w p x) (by simpa using hne)
theorem Var2.other {w : World} {b : Nat} {u v : Value} (h : Var2 w b u v) {p : Addr} (x : Value) (hne : b ≠ p.block) : Var2 (w.setCell p x) b u v :=
  h.kept (grown_set w p x) (by simpa using hne)
theorem ne_own {v : Value} {b : Nat} (h : ∀ c, v.ownBlock = some c → c ≠ b) : some b ≠ v.ownBlock := fun e => h b e.symm rfl
theorem grown_alloc_set {w w1 : World} {r : Option Nat} {o : Obj} (h : (w.alloc o).grownBy w1 r) : w.grownBy w1 r :=
  ⟨h.os, h.tape, h.output, by have := h.size; simp at this; omega, fun k hk hn => (h.block k (by simp; omega) hn).trans (Below.heap_alloc w o k hk)⟩
theorem grown_trans {w w1 w2 : World} {r : Option Nat} (h1 : w.grownBy w1 r) (h2 : w1.grownBy w2 r) : w.grownBy w2 r :=
  ⟨h2.os.trans h1.os, h2.tape.trans h1.tape, h2.output.trans h1.output, Nat.le_trans h1.size h2.size, fun k hk hn => (h2.block k (by have := h1.size; omega) hn).trans (h1.block k hk hn)⟩
theorem OwnI.nil (w : World) (B : Nat) : OwnI w B (.slice none 0 0) [] := World.ownsRow_nil _ _ _ _
theorem below_of_grown {w w' : World} {v : Value} {B : Nat} (hg : w.grownBy w' v.ownBlock) (hB : ∀ b, v.ownBlock = some b → B ≤ b) (hs : B ≤ w.heap.size) : Below B w w' :=
  ⟨hg.os, hg.tape, hg.output, hg.size, fun k hk => hg.block k (by omega) (fun e => by have := hB k e.symm; omega)⟩

def inB (n lo hi : Int) : Bool := decide (lo ≤ n) && decide (n ≤ hi)
theorem inB_iff {n lo hi : Int} : inB n lo hi = true ↔ lo ≤ n ∧ n ≤ hi := by simp [inB]
theorem inB_no {n lo hi : Int} : inB n lo hi = false ↔ n < lo ∨ hi < n := by
  rw [← Bool.not_eq_true, inB_iff]
  omega

def allB (xs : List Int) (lo hi : Int) : Bool := xs.all (fun x => inB x lo hi)
theorem allB_take (xs : List Int) (lo hi : Int) (k : Nat) (h : k < xs.length) : allB (xs.take (k+1)) lo hi = (allB (xs.take k) lo hi && inB (nth xs k) lo hi) := by
  simp only [allB]
  rw [List.take_succ_eq_append_getElem h, List.all_append]
  simp [nth, h]
theorem allB_false {xs : List Int} {lo hi : Int} {k : Nat} (h : k < xs.length) (h1 : inB (nth xs k) lo hi = false) : allB xs lo hi = false := by
  simp only [allB, List.all_eq_false]
  exact ⟨xs[k], List.getElem_mem h, by simpa [nth, h] using h1⟩
theorem allB_nth {xs : List Int} {lo hi : Int} (h : allB xs lo hi = true) {k : Nat} (hk : k < xs.length) : lo ≤ nth xs k ∧ nth xs k ≤ hi := by
  simp only [allB, List.all_eq_true] at h
  have := inB_iff.1 (h _ (List.getElem_mem hk))
  rwa [← nth_get xs k hk] at this

/-- is it a relation? -/
def relB (n : Int) (xs : List Int) : Bool := inB n 0 10 && decide ((xs.length : Int) = n) && allB xs 0 (2 ^ n.toNat - 1)
theorem relB_iff {n : Int} {xs : List Int} : relB n xs = true ↔ (0 ≤ n ∧ n ≤ 10) ∧ (xs.length : Int) = n ∧ allB xs 0 (2 ^ n.toNat - 1) = true := by
  simp [relB, inB_iff, and_assoc]
theorem pow10 {n : Nat} (h : n ≤ 10) : (1 : Int) ≤ 2 ^ n ∧ (2 : Int) ^ n ≤ 1024 := by
  have h1 : 2 ^ n ≤ 2 ^ 10 := Nat.pow_le_pow_right (by omega) h
  have h2 : 1 ≤ 2 ^ n := Nat.one_le_two_pow
  have h3 : ((2 ^ n : Nat) : Int) = (2 : Int) ^ n := by simp
  omega
theorem full_eq {n : Int} (h0 : 0 ≤ n) (h1 : n ≤ 10) : wrap64 (wrap64 (2 ^ n.toNat) - 1) = 2 ^ n.toNat - 1 := by
  have h2 := pow10 (n := n.toNat) (by omega)
  generalize (2 : Int) ^ n.toNat = p at *
  rw [IntWalk.wrap64_in p ⟨by omega, by omega⟩, IntWalk.wrap64_in _ ⟨by omega, by omega⟩]
structure RelP (n : Int) (xs : List Int) : Prop where
  n0 : 0 ≤ n
  n1 : n ≤ 10
  len : (xs.length : Int) = n
  pos : ∀ k, k < xs.length → 0 ≤ nth xs k
  lt : ∀ k, k < xs.length → nth xs k < 2 ^ xs.length
  small : ∀ k, k < xs.length → nth xs k < 1024
theorem relB_p {n : Int} {xs : List Int} (h : relB n xs = true) : RelP n xs := by
  obtain ⟨⟨h0, h1⟩, h2, h3⟩ := relB_iff.1 h
  have e : n.toNat = xs.length := by omega
  rw [e] at h3
  have hp := pow10 (n := xs.length) (by omega)
  exact ⟨h0, h1, h2, fun k hk => (allB_nth h3 hk).1, fun k hk => by have := (allB_nth h3 hk).2; omega, fun k hk => by have := (allB_nth h3 hk).2; omega⟩

theorem wrap64_small (n : Int) (h0 : -9223372036854775808 ≤ n) (h1 : n ≤ 9223372036854775807) : IntKind.i64.wrap n = n := by
  simp only [IntKind.wrap, IntKind.bits, IntKind.signed]
  simp
  omega
theorem i64_wrap (n : Int) : IntKind.i64.wrap n = wrap64 n := IntWalk.i64_left n
theorem ofInt_i64 (a : Nat) (ha : a < 9223372036854775808) : (BitVec.ofInt 64 (a : Int)).toNat = a := by
  simp
  omega
theorem and_nat (a b : Nat) (ha : a < 9223372036854775808) (hb : b < 9223372036854775808) : bits .and .i64 (a : Int) (b : Int) = ((a &&& b : Nat) : Int) := by
  have hx : a &&& b < 2 ^ 63 := Nat.and_lt_two_pow _ (by omega)
  show IntKind.i64.wrap ((BitVec.ofInt 64 (a : Int) &&& BitVec.ofInt 64 (b : Int)).toNat : Int) = _
  rw [BitVec.toNat_and, ofInt_i64 a ha, ofInt_i64 b hb, wrap64_small _ (by omega) (by omega)]
theorem or_nat (a b : Nat) (ha : a < 9223372036854775808) (hb : b < 9223372036854775808) : bits .or .i64 (a : Int) (b : Int) = ((a ||| b : Nat) : Int) := by
  have hx : a ||| b < 2 ^ 63 := Nat.or_lt_two_pow (by omega) (by omega)
  show IntKind.i64.wrap ((BitVec.ofInt 64 (a : Int) ||| BitVec.ofInt 64 (b : Int)).toNat : Int) = _
  rw [BitVec.toNat_or, ofInt_i64 a ha, ofInt_i64 b hb, wrap64_small _ (by omega) (by omega)]
/-- a set without the elements of another one -/
def sub (a b : Nat) : Nat := a ^^^ (a &&& b)
theorem testBit_sub (a b i : Nat) : (sub a b).testBit i = (a.testBit i && !b.testBit i) := by
  simp [sub, Nat.testBit_xor, Nat.testBit_and]
  cases a.testBit i <;> cases b.testBit i <;> rfl
theorem sub_lt {a b n : Nat} (h : a < 2 ^ n) : sub a b < 2 ^ n := by
  unfold sub
  exact Nat.xor_lt_two_pow h (by rw [Nat.and_comm]; exact Nat.and_lt_two_pow _ h)
theorem sub_nat (a b : Nat) (ha : a < 9223372036854775808) (hb : b < 9223372036854775808) : bits .andNot .i64 (a : Int) (b : Int) = ((sub a b : Nat) : Int) := by
  have hs : sub a b < 2 ^ 63 := sub_lt (by omega)
  show IntKind.i64.wrap ((BitVec.ofInt 64 (a : Int) &&& ~~~BitVec.ofInt 64 (b : Int)).toNat : Int) = _
  have e : (BitVec.ofInt 64 (a : Int) &&& ~~~BitVec.ofInt 64 (b : Int)).toNat = sub a b := by
    apply Nat.eq_of_testBit_eq
    intro i
    rw [BitVec.testBit_toNat, BitVec.getLsbD_and, BitVec.getLsbD_not, testBit_sub, ← BitVec.testBit_toNat, ← BitVec.testBit_toNat, ofInt_i64 a ha, ofInt_i64 b hb]
    by_cases hi : i < 64
    · simp [hi]
    · have : a.testBit i = false := Nat.testBit_lt_two_pow (Nat.lt_of_lt_of_le (by omega : a < 2 ^ 64) (Nat.pow_le_pow_right (by omega) (by omega)))
      simp [this]
  rw [e, wrap64_small _ (by omega) (by omega)]
theorem shr_nat (s i : Nat) (hs : s < 9223372036854775808) : (s : Int) / (2 ^ min i 64) = ((s >>> i : Nat) : Int) := by
  rw [Nat.shiftRight_eq_div_pow]
  by_cases h : i ≤ 64
  · rw [Nat.min_eq_left h]
    simp
  · rw [Nat.min_eq_right (by omega)]
    have : 2 ^ 64 ≤ 2 ^ i := Nat.pow_le_pow_right (by omega) (by omega)
    rw [Nat.div_eq_of_lt (by omega)]
    omega
theorem bit_and (s i : Nat) (hs : s < 9223372036854775808) : (bits .and .i64 ((s >>> i : Nat) : Int) 1 == 1) = s.testBit i := by
  have h1 : s >>> i ≤ s := by rw [Nat.shiftRight_eq_div_pow]; exact Nat.div_le_self _ _
  have := and_nat (s >>> i) 1 (by omega) (by omega)
  rw [show ((1 : Nat) : Int) = 1 from rfl] at this
  rw [this, Nat.testBit, Nat.and_one_is_mod, Nat.and_comm, Nat.and_one_is_mod]
  rcases Nat.mod_two_eq_zero_or_one (s >>> i) with h | h <;> simp [h]
theorem bit_mod (s i : Nat) : (((s >>> i : Nat) : Int) % 2 == 1) = s.testBit i := by
  rw [Nat.testBit, Nat.and_comm, Nat.and_one_is_mod]
  rcases Nat.mod_two_eq_zero_or_one (s >>> i) with h | h
  · have h2 : ((s >>> i : Nat) : Int) % 2 = 0 := by omega
    rw [h2, h]; rfl
  · have h2 : ((s >>> i : Nat) : Int) % 2 = 1 := by omega
    rw [h2, h]; rfl
theorem bit_tmod (s i : Nat) : (((s >>> i : Nat) : Int).tmod 2 == 1) = s.testBit i := by
  rw [Int.tmod_eq_emod_of_nonneg (Int.natCast_nonneg _), bit_mod]
/-- is i in the set s? -/
def hasB (s i : Int) : Bool := s.toNat.testBit i.toNat
theorem has_and {s i : Int} (h0 : 0 ≤ s) (h1 : s ≤ 9223372036854775807) (hi : 0 ≤ i) : (bits .and .i64 (s / 2 ^ min i.toNat 64) 1 == 1) = hasB s i := by
  obtain ⟨S, rfl⟩ := Int.eq_ofNat_of_zero_le h0
  rw [shr_nat S _ (by omega), bit_and S _ (by omega)]
  rfl
theorem has_mod {s i : Int} (h0 : 0 ≤ s) (h1 : s ≤ 9223372036854775807) (hi : 0 ≤ i) : ((s / 2 ^ min i.toNat 64).tmod 2 == 1) = hasB s i := by
  obtain ⟨S, rfl⟩ := Int.eq_ofNat_of_zero_le h0
  rw [shr_nat S _ (by omega), bit_tmod S]
  rfl
theorem pow_w {k : Nat} (h : k < 62) : wrap64 (2 ^ k) = ((2 ^ k : Nat) : Int) := by
  have : 2 ^ k ≤ 2 ^ 61 := Nat.pow_le_pow_right (by omega) (by omega)
  rw [show ((2:Int) ^ k) = ((2 ^ k : Nat) : Int) by simp]
  generalize hp : 2 ^ k = p at *
  exact IntWalk.wrap64_in _ ⟨by omega, by omega⟩
theorem or_bit {b k : Nat} (hb : b < 4611686018427387904) (hk : k < 62) : bits .or .i64 (b : Int) (wrap64 (2 ^ k)) = ((b ||| 2 ^ k : Nat) : Int) := by
  rw [pow_w hk]
  have : 2 ^ k ≤ 2 ^ 61 := Nat.pow_le_pow_right (by omega) (by omega)
  exact or_nat _ _ (by omega) (by omega)
theorem or_i {a b : Int} (ha : 0 ≤ a) (ha1 : a < 9223372036854775808) (hb : 0 ≤ b) (hb1 : b < 9223372036854775808) : bits .or .i64 a b = ((a.toNat ||| b.toNat : Nat) : Int) := by
  obtain ⟨A, rfl⟩ := Int.eq_ofNat_of_zero_le ha
  obtain ⟨B, rfl⟩ := Int.eq_ofNat_of_zero_le hb
  exact or_nat A B (by omega) (by omega)
theorem sub_i {a b : Int} (ha : 0 ≤ a) (ha1 : a < 9223372036854775808) (hb : 0 ≤ b) (hb1 : b < 9223372036854775808) : bits .andNot .i64 a b = ((sub a.toNat b.toNat : Nat) : Int) := by
  obtain ⟨A, rfl⟩ := Int.eq_ofNat_of_zero_le ha
  obtain ⟨B, rfl⟩ := Int.eq_ofNat_of_zero_le hb
  exact sub_nat A B (by omega) (by omega)
theorem or_lt {a b n : Nat} (ha : a < 2 ^ n) (hb : b < 2 ^ n) : a ||| b < 2 ^ n := Nat.or_lt_two_pow ha hb
theorem two_lt {k n : Nat} (h : k < n) : 2 ^ k < 2 ^ n := Nat.pow_lt_pow_right (by omega) h
theorem testBit_two (k i : Nat) : (2 ^ k).testBit i = decide (k = i) := Nat.testBit_two_pow

/-- the first answer that a function gives below n -/
def find1 {α : Type} (f : Nat → Option α) (n : Nat) : Option α := (List.range n).findSome? f
theorem find1_none {α : Type} {f : Nat → Option α} {n : Nat} (h : ∀ j, j < n → f j = none) : find1 f n = none := by
  rw [find1, List.findSome?_eq_none_iff]
  intro x hx
  exact h x (by simpa using hx)
theorem find1_succ {α : Type} {f : Nat → Option α} (n : Nat) : find1 f (n+1) = (find1 f n).or (f n) := by
  rw [find1, List.range_succ, List.findSome?_append]
  simp [find1, List.findSome?]
  cases f n <;> rfl
theorem find1_some {α : Type} {f : Nat → Option α} {x : α} : ∀ {n k : Nat}, k < n → f k = some x → (∀ j, j < k → f j = none) → find1 f n = some x
  | 0, k, hk, _, _ => by omega
  | n+1, k, hk, h1, h2 => by
    rw [find1_succ]
    by_cases e : k = n
    · subst e
      rw [find1_none h2, h1]; rfl
    · rw [find1_some (n := n) (by omega) h1 h2]; rfl
theorem find1_congr {α : Type} {f g : Nat → Option α} {n : Nat} (h : ∀ j, j < n → f j = g j) : find1 f n = find1 g n := by
  unfold find1
  induction n with
  | zero => rfl
  | succ n ih =>
    have := ih (fun j hj => h j (by omega))
    rw [List.range_succ, List.findSome?_append, List.findSome?_append, this]
    congr 1
    simp [List.findSome?, h n (by omega)]
theorem find1_ex {α : Type} {f : Nat → Option α} {x : α} : ∀ {n : Nat}, find1 f n = some x → ∃ k, k < n ∧ f k = some x ∧ ∀ j, j < k → f j = none
  | 0, h => by simp [find1] at h
  | n+1, h => by
    rw [find1_succ] at h
    cases hf : find1 f n with
    | none =>
      rw [hf] at h
      refine ⟨n, by omega, by simpa using h, fun j hj => ?_⟩
      rw [find1, List.findSome?_eq_none_iff] at hf
      exact hf j (by simpa using hj)
    | some y =>
      rw [hf] at h
      have e : y = x := by simpa using h
      subst e
      obtain ⟨k, hk, h1, h2⟩ := find1_ex hf
      exact ⟨k, by omega, h1, h2⟩
theorem find1_map {α β : Type} {f : Nat → Option α} {g : α → β} {n : Nat} : find1 (fun j => (f j).map g) n = (find1 f n).map g := by
  induction n with
  | zero => rfl
  | succ n ih => rw [find1_succ, find1_succ, ih]; cases find1 f n <;> rfl

/-- one step of the closing: what is above k goes to i, if k is above i -/
def clStep (xs : List Int) (k i : Nat) : List Int := if hasB (nth xs i) k then xs.set i (((nth xs i).toNat ||| (nth xs k).toNat : Nat) : Int) else xs
def clRow (xs : List Int) (k : Nat) : Nat → List Int
  | 0 => xs
  | i+1 => clStep (clRow xs k i) k i
def clAll (xs : List Int) : Nat → List Int
  | 0 => xs
  | k+1 => clRow (clAll xs k) k xs.length
theorem clStep_len (xs : List Int) (k i : Nat) : (clStep xs k i).length = xs.length := by
  unfold clStep; split <;> simp
theorem clRow_len (xs : List Int) (k : Nat) : ∀ i, (clRow xs k i).length = xs.length
  | 0 => rfl
  | i+1 => by rw [clRow, clStep_len, clRow_len xs k i]
theorem clAll_len (xs : List Int) : ∀ k, (clAll xs k).length = xs.length
  | 0 => rfl
  | k+1 => by rw [clAll, clRow_len, clAll_len xs k]
/-- all numbers of a list are sets below 1024 -/
def Small (xs : List Int) : Prop := ∀ k, k < xs.length → 0 ≤ nth xs k ∧ nth xs k < 1024
theorem nth_set {xs : List Int} {i j : Nat} {x : Int} (hi : i < xs.length) : nth (xs.set i x) j = if i = j then x else nth xs j := by
  simp only [nth, List.getD_eq_getElem?_getD, List.getElem?_set]
  by_cases h : i = j
  · subst h; simp [hi]
  · simp [h]
theorem clStep_small {xs : List Int} (h : Small xs) {k i : Nat} (hk : k < xs.length) (hi : i < xs.length) : Small (clStep xs k i) := by
  unfold clStep
  split
  · intro j hj
    rw [nth_set hi]
    have h1 := h i hi
    have h2 := h k hk
    split
    · have : (nth xs i).toNat ||| (nth xs k).toNat < 2 ^ 10 := or_lt (by omega) (by omega)
      omega
    · exact h j (by simpa using hj)
  · exact h
theorem clRow_small {xs : List Int} (h : Small xs) {k : Nat} (hk : k < xs.length) : ∀ i, i ≤ xs.length → Small (clRow xs k i)
  | 0, _ => h
  | i+1, hi => clStep_small (clRow_small h hk i (by omega)) (by rw [clRow_len]; exact hk) (by rw [clRow_len]; omega)
theorem clAll_small {xs : List Int} (h : Small xs) : ∀ k, k ≤ xs.length → Small (clAll xs k)
  | 0, _ => h
  | k+1, hk => clRow_small (clAll_small h k (by omega)) (by rw [clAll_len]; omega) _ (by rw [clAll_len]; omega)
theorem RelP.sm {n : Int} {xs : List Int} (h : RelP n xs) : Small xs := fun k hk => ⟨h.pos k hk, h.small k hk⟩
theorem set_ints (xs : List Int) (i : Nat) (x : Int) : (xs.map (Value.int .i64)).set i (.int .i64 x) = (xs.set i x).map (Value.int .i64) := by
  rw [List.map_set]
/-- a store into an owned row -/
theorem OwnI.put {w : World} {B g n cap : Nat} {xs : List Int} (h : OwnI w B (.slice (some ⟨g, 0, none⟩) n cap) xs) (hn : n = xs.length) (i : Nat) (x : Int) :
    OwnI (w.setCell ⟨g, i, none⟩ (.int .i64 x)) B (.slice (some ⟨g, 0, none⟩) n cap) (xs.set i x) ∧ w.grownBy (w.setCell ⟨g, i, none⟩ (.int .i64 x)) (some g) := by
  subst hn
  have hst := World.ownsRow.stored h i (.int .i64 x)
  rw [set_ints] at hst
  refine ⟨?_, hst.2⟩
  unfold OwnI
  rw [List.length_set]
  exact hst.1
theorem OwnI.at' {w : World} {B g n cap : Nat} {xs : List Int} (h : OwnI w B (.slice (some ⟨g, 0, none⟩) n cap) xs) (hn : n = xs.length) {i : Nat} (hi : i < xs.length) :
    w.cell? ⟨g, i, none⟩ = some (.int .i64 (nth xs i)) ∧ w.frozen? ⟨g, i, none⟩ = false := by
  subst hn
  refine ⟨?_, World.ownsRow.frozenAt h i⟩
  rw [World.ownsRow.cellAt h i (by omega)]
  simp [nth, hi]
theorem OwnI.head {w : World} {B n cap : Nat} {a : Option Addr} {xs : List Int} (h : OwnI w B (.slice a n cap) xs) (hp : 0 < xs.length) : ∃ g, a = some ⟨g, 0, none⟩ ∧ B ≤ g ∧ g < w.heap.size := by
  rcases h.2 with ⟨e, h0⟩ | ⟨g, c, cur, e, hb, hg, _⟩
  · omega
  · simp only [Value.slice.injEq] at e
    exact ⟨g, e.1, hb, (Array.getElem?_eq_some_iff.1 hg).1⟩
def cloN (n : Int) (xs : List Int) : Int := if relB n xs then n else 0
def cloL (n : Int) (xs : List Int) : List Int := if relB n xs then clAll xs xs.length else []
theorem cloL_len (n : Int) (xs : List Int) : (cloL n xs).length ≤ 1048576 := by
  unfold cloL
  split
  · rename_i h
    have hp := relB_p h
    have := hp.len
    have := hp.n1
    rw [clAll_len]
    omega
  · simp

/-- the least number that is greater than all of the first k -/
def unTo (l : List Int) : Nat → Nat
  | 0 => 0
  | k+1 => max (unTo l k) ((nth l k).toNat + 1)
/-- the first list that goes on a list so far, in which each longer beginning fits -/
def cnS (F : List Int → Bool) (lim : Nat) : Nat → List Int → Option (List Int)
  | 0, l => some l
  | d+1, l => find1 (fun x => if F (l ++ [(x : Int)]) then cnS F lim d (l ++ [(x : Int)]) else none) (min lim (unTo l l.length + 1))
theorem cnS_len {F : List Int → Bool} {lim : Nat} : ∀ {d : Nat} {l ys : List Int}, cnS F lim d l = some ys → ys.length = l.length + d
  | 0, l, ys, h => by simp only [cnS, Option.some.injEq] at h; rw [h]; rfl
  | d+1, l, ys, h => by
    simp only [cnS] at h
    obtain ⟨x, _, h1, _⟩ := find1_ex h
    split at h1
    · have := cnS_len h1
      rw [this, List.length_append]; simp; omega
    · cases h1
/-- are all numbers of a list less than a limit? -/
def LtL (lim : Nat) (l : List Int) : Prop := ∀ i, i < l.length → 0 ≤ nth l i ∧ nth l i < (lim : Int)
theorem LtL.snoc {lim : Nat} {l : List Int} (h : LtL lim l) {x : Nat} (hx : x < lim) : LtL lim (l ++ [(x : Int)]) := by
  intro i hi
  rw [List.length_append, List.length_singleton] at hi
  by_cases e : i = l.length
  · have : nth (l ++ [(x : Int)]) i = (x : Int) := by simp [nth, List.getD_eq_getElem?_getD, e]
    rw [this]; omega
  · have : nth (l ++ [(x : Int)]) i = nth l i := by simp [nth, List.getD_eq_getElem?_getD, List.getElem?_append_left (show i < l.length by omega)]
    rw [this]; exact h i (by omega)
theorem unTo_le {lim : Nat} {l : List Int} (h : LtL lim l) : ∀ k, k ≤ l.length → unTo l k ≤ lim
  | 0, _ => by simp [unTo]
  | k+1, hk => by
    have ih := unTo_le h k (by omega)
    have h1 := h k (by omega)
    simp only [unTo]
    omega

def memB (es : List Int) (i : Int) : Bool := (List.range es.length).any (fun k => nth es k == i)
theorem memB_iff {es : List Int} {i : Int} : memB es i = true ↔ ∃ k, k < es.length ∧ nth es k = i := by simp [memB]

/-- the elements of a set that are less than k, in order -/
def elemsTo (s : Nat) : Nat → List Int
  | 0 => []
  | k+1 => if s.testBit k then elemsTo s k ++ [(k : Int)] else elemsTo s k
theorem elemsTo_len (s : Nat) : ∀ k, (elemsTo s k).length ≤ k
  | 0 => by simp [elemsTo]
  | k+1 => by
    have := elemsTo_len s k
    simp only [elemsTo]
    split <;> simp <;> omega
theorem mem_elemsTo (s : Nat) (x : Int) : ∀ k, x ∈ elemsTo s k ↔ ∃ i : Nat, i < k ∧ s.testBit i = true ∧ x = i
  | 0 => by simp [elemsTo]
  | k+1 => by
    have ih := mem_elemsTo s x k
    simp only [elemsTo]
    cases hb : s.testBit k
    · rw [if_neg (by simp), ih]
      constructor
      · rintro ⟨i, h1, h2, h3⟩
        exact ⟨i, by omega, h2, h3⟩
      · rintro ⟨i, h1, h2, h3⟩
        have : i ≠ k := fun e => by rw [e, hb] at h2; cases h2
        exact ⟨i, by omega, h2, h3⟩
    · rw [if_pos rfl, List.mem_append, ih]
      constructor
      · rintro (⟨i, h1, h2, h3⟩ | h)
        · exact ⟨i, by omega, h2, h3⟩
        · exact ⟨k, by omega, hb, by simpa using h⟩
      · rintro ⟨i, h1, h2, h3⟩
        by_cases e : i = k
        · exact .inr (by simp [h3, e])
        · exact .inl ⟨i, by omega, h2, h3⟩
theorem elemsTo_more (s k : Nat) (h : s >>> k = 0) : ∀ m, elemsTo s (k + m) = elemsTo s k
  | 0 => rfl
  | m+1 => by
    have hb : s.testBit (k + m) = false := by
      rw [Nat.testBit]
      have : s >>> (k + m) = 0 := by rw [Nat.shiftRight_add, h]; simp
      simp [this]
    show elemsTo s (k + m + 1) = _
    simp only [elemsTo, hb]
    exact elemsTo_more s k h m
/-- all elements of a set below 1024 -/
def elems (s : Nat) : List Int := elemsTo s 10
theorem elems_at {s k : Nat} (h : s >>> k = 0) (hk : k ≤ 10) : elemsTo s k = elems s := by
  have := elemsTo_more s k h (10 - k)
  rw [show k + (10 - k) = 10 from by omega] at this
  exact this.symm
theorem elems_len (s : Nat) : (elems s).length ≤ 10 := elemsTo_len s 10
theorem mem_elems {s : Nat} (hs : s < 1024) {x : Int} : x ∈ elems s ↔ ∃ i : Nat, s.testBit i = true ∧ x = i := by
  rw [elems, mem_elemsTo]
  constructor
  · rintro ⟨i, _, h2, h3⟩
    exact ⟨i, h2, h3⟩
  · rintro ⟨i, h2, h3⟩
    refine ⟨i, ?_, h2, h3⟩
    rcases Nat.lt_or_ge i 10 with h | h
    · exact h
    · have : s < 2 ^ i := Nat.lt_of_lt_of_le hs (Nat.pow_le_pow_right (by omega : 0 < 2) h)
      rw [Nat.testBit_lt_two_pow this] at h2
      cases h2
theorem nth_mem {xs : List Int} {k : Nat} (h : k < xs.length) : nth xs k ∈ xs := by
  rw [nth_get xs k h]; exact List.getElem_mem h
theorem mem_nth {xs : List Int} {x : Int} (h : x ∈ xs) : ∃ k, k < xs.length ∧ nth xs k = x := by
  obtain ⟨k, hk, e⟩ := List.getElem_of_mem h
  exact ⟨k, hk, by rw [nth_get xs k hk, e]⟩

/-- the set of the indices below k of the lists that have i -/
def belowTo (xs : List Int) (i : Int) : Nat → Nat
  | 0 => 0
  | k+1 => if hasB (nth xs k) i then belowTo xs i k ||| 2 ^ k else belowTo xs i k
theorem belowTo_lt (xs : List Int) (i : Int) : ∀ k, belowTo xs i k < 2 ^ k
  | 0 => by simp [belowTo]
  | k+1 => by
    have h := belowTo_lt xs i k
    have h2 : 2 ^ k < 2 ^ (k+1) := two_lt (by omega)
    simp only [belowTo]
    split
    · exact or_lt (by omega) h2
    · omega
theorem belowTo_small (xs : List Int) (i : Int) {k : Nat} (h : k ≤ 10) : belowTo xs i k < 1024 := by
  have h1 := belowTo_lt xs i k
  have h2 : 2 ^ k ≤ 2 ^ 10 := Nat.pow_le_pow_right (by omega) h
  omega
theorem belowTo_bit (xs : List Int) (i : Int) (j : Nat) : ∀ k, (belowTo xs i k).testBit j = (decide (j < k) && hasB (nth xs j) i)
  | 0 => by simp [belowTo]
  | k+1 => by
    have h := belowTo_bit xs i j k
    simp only [belowTo]
    by_cases hjk : j = k
    · subst hjk
      cases hb : hasB (nth xs j) i
      · simp [h]
      · simp [Nat.testBit_or, testBit_two]
    · have e : decide (j < k + 1) = decide (j < k) := by
        rw [decide_eq_decide]; omega
      rw [e, ← h]
      have hkj : ¬ k = j := fun e => hjk e.symm
      cases hb : hasB (nth xs k) i <;> simp [Nat.testBit_or, testBit_two, hkj]

def okAtB (xs : List Int) (k : Nat) : Bool := !hasB (nth xs k) k && (List.range xs.length).all (fun j => !hasB (nth xs k) j || sub (nth xs j).toNat (nth xs k).toNat == 0)
/-- is it an order? -/
def ordB (n : Int) (xs : List Int) : Bool := relB n xs && (List.range xs.length).all (okAtB xs)
theorem okAtB_iff {xs : List Int} {k : Nat} : okAtB xs k = true ↔ hasB (nth xs k) k = false ∧ ∀ j, j < xs.length → hasB (nth xs k) j = true → sub (nth xs j).toNat (nth xs k).toNat = 0 := by
  simp only [okAtB, Bool.and_eq_true, Bool.not_eq_true', List.all_eq_true, List.mem_range, Bool.or_eq_true, beq_iff_eq]
  constructor
  · rintro ⟨h1, h2⟩
    exact ⟨h1, fun j hj hb => (h2 j hj).resolve_left (by simp [hb])⟩
  · rintro ⟨h1, h2⟩
    refine ⟨h1, fun j hj => ?_⟩
    cases hb : hasB (nth xs k) j
    · exact .inl rfl
    · exact .inr (h2 j hj hb)
theorem ordB_iff {n : Int} {xs : List Int} : ordB n xs = true ↔ relB n xs = true ∧ ∀ k, k < xs.length → okAtB xs k = true := by
  simp [ordB]
theorem ordB_no {n : Int} {xs : List Int} {k : Nat} (hk : k < xs.length) (h : okAtB xs k = false) : ordB n xs = false := by
  rw [← Bool.not_eq_true, ordB_iff]
  rintro ⟨_, h2⟩
  rw [h2 k hk] at h
  cases h
theorem okAtB_has {xs : List Int} {k : Nat} (h : hasB (nth xs k) k = true) : okAtB xs k = false := by
  simp [okAtB, h]
theorem okAtB_sub {xs : List Int} {k j : Nat} (hj : j < xs.length) (h : hasB (nth xs k) j = true) (h2 : sub (nth xs j).toNat (nth xs k).toNat ≠ 0) : okAtB xs k = false := by
  rw [← Bool.not_eq_true, okAtB_iff]
  rintro ⟨_, h3⟩
  exact h2 (h3 j hj h)
theorem sub_zero {a b : Nat} : sub a b = 0 ↔ ∀ i, a.testBit i = true → b.testBit i = true := by
  constructor
  · intro h i hi
    have := testBit_sub a b i
    rw [h, hi] at this
    simpa using this.symm
  · intro h
    apply Nat.eq_of_testBit_eq
    intro i
    rw [testBit_sub]
    cases ha : a.testBit i
    · simp
    · simp [h i ha]
theorem has_lt {n : Int} {xs : List Int} (hp : RelP n xs) {k : Nat} (hk : k < xs.length) {j : Nat} (h : hasB (nth xs k) j = true) : j < xs.length := by
  rcases Nat.lt_or_ge j xs.length with h' | h'
  · exact h'
  · have h1 := hp.lt k hk
    have h0 := hp.pos k hk
    have h2 : (nth xs k).toNat < 2 ^ j := by
      have : (2 : Nat) ^ xs.length ≤ 2 ^ j := Nat.pow_le_pow_right (by omega) h'
      have e : ((2 ^ xs.length : Nat) : Int) = (2 : Int) ^ xs.length := by simp
      omega
    simp only [hasB] at h
    rw [Int.toNat_natCast, Nat.testBit_lt_two_pow h2] at h
    cases h

/-- does the last element of a list stand to that with the index a, in both ways, as in the pattern? -/
def ptG (xs ys L : List Int) (a : Nat) : Bool :=
  (hasB (nth xs (nth L a).toNat) (nth L (L.length - 1)) == hasB (nth ys a) ((L.length - 1 : Nat) : Int)) && (hasB (nth xs (nth L (L.length - 1)).toNat) (nth L a) == hasB (nth ys (L.length - 1)) ((a : Nat) : Int))
def ptW (xs ys L : List Int) : Bool := (List.range L.length).all (ptG xs ys L)
/-- the first list that goes on a list so far and has the pattern -/
def fpS (xs ys : List Int) : Nat → List Int → Option (List Int)
  | 0, l => some l
  | d+1, l => find1 (fun i => if !memB l (i : Int) && ptW xs ys (l ++ [(i : Int)]) then fpS xs ys d (l ++ [(i : Int)]) else none) xs.length
theorem ptW_iff {xs ys L : List Int} : ptW xs ys L = true ↔ ∀ a, a < L.length → ptG xs ys L a = true := by simp [ptW]
theorem ptW_no {xs ys L : List Int} {a : Nat} (ha : a < L.length) (h : ptG xs ys L a = false) : ptW xs ys L = false := by
  rw [← Bool.not_eq_true, ptW_iff]
  intro h2
  rw [h2 a ha] at h; cases h
theorem fpS_len {xs ys : List Int} : ∀ {d : Nat} {l zs : List Int}, fpS xs ys d l = some zs → zs.length = l.length + d
  | 0, l, zs, h => by simp only [fpS, Option.some.injEq] at h; rw [h]; rfl
  | d+1, l, zs, h => by
    simp only [fpS] at h
    obtain ⟨x, _, h1, _⟩ := find1_ex h
    split at h1
    · have := fpS_len h1
      rw [this, List.length_append]; simp; omega
    · cases h1
theorem rel_at {n : Int} {xs : List Int} (hp : RelP n xs) {k : Nat} (hk : k < xs.length) : 0 ≤ nth xs k ∧ nth xs k ≤ 9223372036854775807 := ⟨hp.pos k hk, by have := hp.small k hk; omega⟩

def elemB (i n : Int) : Bool := decide (0 ≤ i) && decide (i < n)
theorem elemB_iff {i n : Int} : elemB i n = true ↔ 0 ≤ i ∧ i < n := by simp [elemB]
theorem elemB_no {i n : Int} : elemB i n = false ↔ i < 0 ∨ n ≤ i := by
  rw [← Bool.not_eq_true, elemB_iff]; omega

/-- the set of all elements above one of those of a set that are less than k -/
def aboveTo (xs : List Int) (s : Int) : Nat → Nat
  | 0 => 0
  | k+1 => if hasB s k then aboveTo xs s k ||| (nth xs k).toNat else aboveTo xs s k
theorem aboveTo_lt {n : Int} {xs : List Int} (hp : RelP n xs) (s : Int) : ∀ k, k ≤ xs.length → aboveTo xs s k < 2 ^ 10
  | 0, _ => by simp [aboveTo]
  | k+1, hk => by
    have h := aboveTo_lt hp s k (by omega)
    have h1 := hp.small k (by omega)
    have h0 := hp.pos k (by omega)
    simp only [aboveTo]
    split
    · exact or_lt h (by omega)
    · exact h
theorem aboveTo_bit (xs : List Int) (s : Int) (j : Nat) : ∀ k, (aboveTo xs s k).testBit j = true ↔ ∃ i, i < k ∧ hasB s i = true ∧ (nth xs i).toNat.testBit j = true
  | 0 => by simp [aboveTo]
  | k+1 => by
    have ih := aboveTo_bit xs s j k
    simp only [aboveTo]
    cases hb : hasB s k
    · rw [if_neg (by simp), ih]
      constructor
      · rintro ⟨i, h1, h2, h3⟩
        exact ⟨i, by omega, h2, h3⟩
      · rintro ⟨i, h1, h2, h3⟩
        have : i ≠ k := fun e => by rw [e, hb] at h2; cases h2
        exact ⟨i, by omega, h2, h3⟩
    · rw [if_pos rfl, Nat.testBit_or, Bool.or_eq_true, ih]
      constructor
      · rintro (⟨i, h1, h2, h3⟩ | h)
        · exact ⟨i, by omega, h2, h3⟩
        · exact ⟨k, by omega, hb, h⟩
      · rintro ⟨i, h1, h2, h3⟩
        by_cases e : i = k
        · subst e; exact .inr h3
        · exact .inl ⟨i, by omega, h2, h3⟩
theorem okAtB_above {xs : List Int} {k : Nat} (h : hasB (nth xs k) k = false) : okAtB xs k = (sub (aboveTo xs (nth xs k) xs.length) (nth xs k).toNat == 0) := by
  rw [Bool.eq_iff_iff, okAtB_iff, beq_iff_eq, sub_zero]
  constructor
  · rintro ⟨_, h2⟩ i hi
    obtain ⟨j, hj, hb, ht⟩ := (aboveTo_bit _ _ _ _).1 hi
    exact sub_zero.1 (h2 j hj hb) i ht
  · intro h2
    refine ⟨h, fun j hj hb => sub_zero.2 (fun i hi => h2 i ((aboveTo_bit _ _ _ _).2 ⟨j, hj, hb, hi⟩))⟩

/-- the list of f 0, .., f (k - 1) -/
def fmap (f : Nat → Int) (k : Nat) : List Int := (List.range k).map f
theorem fmap_len (f : Nat → Int) (k : Nat) : (fmap f k).length = k := by simp [fmap]
theorem fmap_nth (f : Nat → Int) {k i : Nat} (h : i < k) : nth (fmap f k) i = f i := by simp [nth, fmap, h]
theorem fmap_succ (f : Nat → Int) (k : Nat) : fmap f (k+1) = fmap f k ++ [f k] := by simp [fmap, List.range_succ]
/-- one store more into a row that was made -/
theorem fill_step (f : Nat → Int) (m k : Nat) (h : k < m) :
    ((fmap f k ++ List.replicate (m - k) (0:Int)).map (Value.int .i64)).set k (.int .i64 (f k)) = (fmap f (k+1) ++ List.replicate (m - (k+1)) (0:Int)).map (Value.int .i64) := by
  apply List.ext_getElem?
  intro j
  rw [List.getElem?_set]
  by_cases hj : k = j
  · subst hj
    rw [if_pos rfl, if_pos (by simp [fmap_len]; omega), List.getElem?_map, List.getElem?_append_left (by rw [fmap_len]; omega)]
    simp [fmap]
  · simp only [hj, if_false, List.getElem?_map, List.getElem?_append, fmap_len, List.getElem?_replicate]
    by_cases h1 : j < k
    · have h2 : j < k + 1 := by omega
      simp [h1, h2, fmap]
    · have h2 : ¬ j < k + 1 := by omega
      have h3 : j - k < m - k ↔ j - (k+1) < m - (k+1) := by omega
      simp [h1, h2, h3]
theorem fill_end (f : Nat → Int) (m : Nat) : fmap f m ++ List.replicate (m - m) (0:Int) = fmap f m := by simp
/-- the row that a make of m integers has made -/
theorem made_ints {w1 : World} {B : Nat} {v : Value} {m : Nat} (f : Nat → Int) (h : w1.ownsRow B 3 1 v m (madeCells (Value.int .i64 0).cells (m * 1)).toList) :
    w1.ownsRow B 3 1 v m ((fmap f 0 ++ List.replicate (m - 0) (0:Int)).map (Value.int .i64)) := by
  simpa [Value.cells, toList_madeCells_one, fmap] using h

/-- is the number at k an element, and greater than the one before it? -/
def okI (n : Int) (es : List Int) (k : Nat) : Bool := elemB (nth es k) n && (k == 0 || decide (nth es (k-1) < nth es k))
def incB (n : Int) (es : List Int) : Bool := (List.range es.length).all (okI n es)
theorem incB_iff {n : Int} {es : List Int} : incB n es = true ↔ ∀ k, k < es.length → okI n es k = true := by simp [incB]
theorem incB_no {n : Int} {es : List Int} {k : Nat} (hk : k < es.length) (h : okI n es k = false) : incB n es = false := by
  rw [← Bool.not_eq_true, incB_iff]
  intro h2
  rw [h2 k hk] at h
  cases h
theorem okI_elem {n : Int} {es : List Int} {k : Nat} (h : okI n es k = true) : 0 ≤ nth es k ∧ nth es k < n := by
  simp only [okI, Bool.and_eq_true] at h
  exact elemB_iff.1 h.1
theorem inc_ge {n : Int} {es : List Int} (h : ∀ k, k < es.length → okI n es k = true) : ∀ k, k < es.length → (k : Int) ≤ nth es k
  | 0, hk => by have := (okI_elem (h 0 hk)).1; simpa using this
  | k+1, hk => by
    have ih := inc_ge h k (by omega)
    have := h (k+1) hk
    simp only [okI, Bool.and_eq_true, Bool.or_eq_true, beq_iff_eq, decide_eq_true_eq] at this
    rcases this.2 with h0 | h0
    · omega
    · simp only [Nat.add_sub_cancel] at h0
      push_cast
      omega
theorem inc_len {n : Int} {es : List Int} (h : incB n es = true) (hn : 0 ≤ n) : (es.length : Int) ≤ n := by
  rw [incB_iff] at h
  rcases Nat.eq_zero_or_pos es.length with h0 | h0
  · omega
  · have h1 := inc_ge h (es.length - 1) (by omega)
    have h2 := (okI_elem (h (es.length - 1) (by omega))).2
    omega

/-- the set of the first k numbers of a list -/
def setTo (es : List Int) : Nat → Nat
  | 0 => 0
  | k+1 => setTo es k ||| 2 ^ (nth es k).toNat
/-- how many numbers less than n are in a set -/
def card (s : Nat) : Nat → Nat
  | 0 => 0
  | n+1 => card s n + (if s.testBit n then 1 else 0)
theorem card_or (s x : Nat) : ∀ n, card (s ||| 2 ^ x) n = card s n + (if x < n ∧ s.testBit x = false then 1 else 0)
  | 0 => by simp [card]
  | n+1 => by
    have ih := card_or s x n
    simp only [card, ih, Nat.testBit_or, testBit_two]
    by_cases h : x = n
    · subst h
      cases s.testBit x <;> simp
    · have h2 : x < n + 1 ↔ x < n := by omega
      simp only [h, decide_false, Bool.or_false, h2]
      omega
theorem card_le (s : Nat) : ∀ n, card s n ≤ n
  | 0 => Nat.le_refl _
  | n+1 => by
    have := card_le s n
    simp only [card]
    split <;> omega
theorem card_full {s : Nat} : ∀ n, card s n = n → ∀ i, i < n → s.testBit i = true
  | 0, _, i, hi => by omega
  | n+1, h, i, hi => by
    have h1 := card_le s n
    simp only [card] at h
    cases hb : s.testBit n
    · rw [hb] at h
      simp at h
      omega
    · rw [hb] at h
      simp at h
      by_cases e : i = n
      · rw [e]; exact hb
      · exact card_full n h i (by omega)
theorem card_all {s : Nat} : ∀ n, (∀ i, i < n → s.testBit i = true) → card s n = n
  | 0, _ => rfl
  | n+1, h => by
    simp only [card, h n (by omega), if_true]
    rw [card_all n (fun i hi => h i (by omega))]
theorem setTo_bit (es : List Int) (j : Nat) : ∀ k, (setTo es k).testBit j = true ↔ ∃ i, i < k ∧ (nth es i).toNat = j
  | 0 => by simp [setTo]
  | k+1 => by
    have ih := setTo_bit es j k
    simp only [setTo]
    rw [Nat.testBit_or, Bool.or_eq_true, ih, testBit_two, decide_eq_true_eq]
    constructor
    · rintro (⟨i, h1, h2⟩ | h)
      · exact ⟨i, by omega, h2⟩
      · exact ⟨k, by omega, h⟩
    · rintro ⟨i, h1, h2⟩
      by_cases e : i = k
      · subst e; exact .inr h2
      · exact .inl ⟨i, by omega, h2⟩
theorem setTo_lt {es : List Int} {m : Nat} : ∀ k, (∀ i, i < k → (nth es i).toNat < m) → setTo es k < 2 ^ m
  | 0, _ => by simp only [setTo]; exact Nat.two_pow_pos m
  | k+1, h => or_lt (setTo_lt k (fun i hi => h i (by omega))) (two_lt (h k (by omega)))
theorem card_setTo_le {es : List Int} {m : Nat} : ∀ k, card (setTo es k) m ≤ k
  | 0 => by
    have : ∀ m, card 0 m = 0 := by
      intro m
      induction m with
      | zero => rfl
      | succ m ih => simp [card, ih]
    simp [setTo, this]
  | k+1 => by
    have ih := card_setTo_le (es := es) (m := m) k
    simp only [setTo, card_or]
    split <;> omega
/-- is the number at k an element that was not there before? -/
def okN (n : Int) (es : List Int) (k : Nat) : Bool := elemB (nth es k) n && !(setTo es k).testBit (nth es k).toNat
/-- has a list each element once? -/
def permB (n : Int) (es : List Int) : Bool := decide ((es.length : Int) = n) && (List.range es.length).all (okN n es)
theorem permB_iff {n : Int} {es : List Int} : permB n es = true ↔ (es.length : Int) = n ∧ ∀ k, k < es.length → okN n es k = true := by simp [permB]
theorem permB_no {n : Int} {es : List Int} {k : Nat} (hk : k < es.length) (h : okN n es k = false) : permB n es = false := by
  rw [← Bool.not_eq_true, permB_iff]
  rintro ⟨_, h2⟩
  rw [h2 k hk] at h
  cases h
theorem okN_elem {n : Int} {es : List Int} {k : Nat} (h : okN n es k = true) : 0 ≤ nth es k ∧ nth es k < n := by
  simp only [okN, Bool.and_eq_true] at h
  exact elemB_iff.1 h.1
theorem okN_new {n : Int} {es : List Int} {k : Nat} (h : okN n es k = true) : (setTo es k).testBit (nth es k).toNat = false := by
  simp only [okN, Bool.and_eq_true, Bool.not_eq_true'] at h
  exact h.2
theorem card_perm {n : Int} {es : List Int} (h : ∀ k, k < es.length → okN n es k = true) : ∀ k, k ≤ es.length → card (setTo es k) n.toNat = k
  | 0, _ => by
    have := card_setTo_le (es := es) (m := n.toNat) 0
    omega
  | k+1, hk => by
    have ih := card_perm h k (by omega)
    have h1 := h k (by omega)
    have h2 := okN_elem h1
    have h3 := okN_new h1
    simp only [setTo, card_or, ih]
    rw [if_pos ⟨by omega, h3⟩]
/-- in a list that has each element once, each element stands somewhere -/
theorem perm_onto {n : Int} {es : List Int} (h : permB n es = true) {x : Nat} (hx : x < es.length) : ∃ i, i < es.length ∧ nth es i = (x : Int) := by
  rw [permB_iff] at h
  have hc := card_perm h.2 es.length (Nat.le_refl _)
  have hb := card_full n.toNat (by rw [hc]; omega) x (by omega)
  obtain ⟨i, hi, e⟩ := (setTo_bit es x es.length).1 hb
  have := okN_elem (h.2 i hi)
  exact ⟨i, hi, by omega⟩
theorem perm_inj {n : Int} {es : List Int} (h : permB n es = true) {i j : Nat} (hi : i < es.length) (hj : j < es.length) (e : nth es i = nth es j) : i = j := by
  rw [permB_iff] at h
  rcases Nat.lt_trichotomy i j with h1 | h1 | h1
  · have := okN_new (h.2 j hj)
    rw [(setTo_bit es _ j).2 ⟨i, h1, by rw [e]⟩] at this
    cases this
  · exact h1
  · have := okN_new (h.2 i hi)
    rw [(setTo_bit es _ i).2 ⟨j, h1, by rw [e]⟩] at this
    cases this
theorem full_bits (n i : Nat) : (2 ^ n - 1).testBit i = decide (i < n) := Nat.testBit_two_pow_sub_one n i
theorem names_eq {n : Int} {es : List Int} (h0 : 0 ≤ n) : permB n es = (decide ((es.length : Int) = n) && allB es 0 (n - 1) && decide (setTo es es.length = 2 ^ n.toNat - 1)) := by
  rw [Bool.eq_iff_iff]
  constructor
  · intro h
    have h' := permB_iff.1 h
    have hall : allB es 0 (n - 1) = true := by
      simp only [allB, List.all_eq_true]
      intro x hx
      obtain ⟨k, hk, rfl⟩ := mem_nth hx
      have := okN_elem (h'.2 k hk)
      rw [inB_iff]; omega
    have hset : setTo es es.length = 2 ^ n.toNat - 1 := by
      apply Nat.eq_of_testBit_eq
      intro i
      rw [full_bits, Bool.eq_iff_iff, setTo_bit, decide_eq_true_eq]
      constructor
      · rintro ⟨k, hk, rfl⟩
        have := okN_elem (h'.2 k hk)
        omega
      · intro hi
        obtain ⟨k, hk, e⟩ := perm_onto h (x := i) (by omega)
        exact ⟨k, hk, by rw [e]; rfl⟩
    simp [h'.1, hall, hset]
  · intro h
    simp only [Bool.and_eq_true, decide_eq_true_eq] at h
    obtain ⟨⟨h1, h2⟩, h3⟩ := h
    rw [permB_iff]
    refine ⟨h1, fun k hk => ?_⟩
    have hel : ∀ k, k < es.length → 0 ≤ nth es k ∧ nth es k < n := fun k hk => by have := allB_nth h2 hk; omega
    have hk1 := hel k hk
    simp only [okN, Bool.and_eq_true, Bool.not_eq_true']
    refine ⟨elemB_iff.2 hk1, ?_⟩
    -- were it there before, too few would be there in the end
    rw [← Bool.not_eq_true]
    intro hb
    have hle : ∀ m, m ≤ es.length → k < m → card (setTo es m) n.toNat ≤ m - 1 := by
      intro m
      induction m with
      | zero => intro _ hkm; omega
      | succ m ih =>
        intro hm hkm
        simp only [setTo, card_or]
        by_cases e : k = m
        · subst e
          rw [if_neg (by rintro ⟨_, h5⟩; rw [hb] at h5; cases h5)]
          have := card_setTo_le (es := es) (m := n.toNat) k
          omega
        · have := ih (by omega) (by omega)
          split <;> omega
    have h5 := hle es.length (Nat.le_refl _) hk
    rw [h3, card_all n.toNat (fun i hi => by rw [full_bits]; simpa using hi)] at h5
    omega

/-- the set of the places below b whose elements are in x -/
def partTo (es : List Int) (x : Int) : Nat → Nat
  | 0 => 0
  | b+1 => if hasB x (nth es b) then partTo es x b ||| 2 ^ b else partTo es x b
theorem partTo_lt (es : List Int) (x : Int) : ∀ k, partTo es x k < 2 ^ k
  | 0 => by simp [partTo]
  | k+1 => by
    have h := partTo_lt es x k
    have h2 : 2 ^ k < 2 ^ (k+1) := two_lt (by omega)
    simp only [partTo]
    split
    · exact or_lt (by omega) h2
    · omega
theorem partTo_small (es : List Int) (x : Int) {k : Nat} (h : k ≤ 10) : partTo es x k < 1024 := by
  have h1 := partTo_lt es x k
  have h2 : 2 ^ k ≤ 2 ^ 10 := Nat.pow_le_pow_right (by omega) h
  omega
def partE (xs es : List Int) (a : Nat) : Int := ((partTo es (nth xs (nth es a).toNat) es.length : Nat) : Int)
def parts (xs es : List Int) (k : Nat) : List Int := fmap (partE xs es) k
theorem parts_len (xs es : List Int) (k : Nat) : (parts xs es k).length = k := fmap_len _ _
/-- the elements of a list are elements -/
structure Elems (n : Nat) (es : List Int) : Prop where
  len : es.length ≤ 10
  ok : ∀ k, k < es.length → ∃ i : Nat, i < n ∧ nth es k = (i : Int)
theorem inc_elems {n : Int} {xs es : List Int} (hp : RelP n xs) (h : incB n es = true) : Elems xs.length es := by
  have h1 := inc_len h hp.n0
  have h2 := hp.n1
  refine ⟨by omega, fun k hk => ?_⟩
  have h3 := okI_elem (incB_iff.1 h k hk)
  have h4 := hp.len
  obtain ⟨i, hi⟩ := Int.eq_ofNat_of_zero_le h3.1
  exact ⟨i, by omega, hi⟩

/-- the place at which an element stands in a list -/
def pl (es : List Int) (x : Nat) : Nat := ((List.range es.length).find? (fun i => nth es i == (x : Int))).getD 0
theorem pl_spec {n : Int} {es : List Int} (h : permB n es = true) {x : Nat} (hx : x < es.length) : pl es x < es.length ∧ nth es (pl es x) = (x : Int) := by
  obtain ⟨i, hi, e⟩ := perm_onto h hx
  have hs : ((List.range es.length).find? (fun i => nth es i == (x : Int))).isSome = true := by
    rw [List.find?_isSome]
    exact ⟨i, by simpa using hi, by simpa using e⟩
  obtain ⟨j, hj⟩ := Option.isSome_iff_exists.1 hs
  have h1 := List.find?_some hj
  have h2 := List.mem_of_find?_eq_some hj
  unfold pl
  rw [hj]
  simp only [Option.getD_some]
  exact ⟨by simpa using h2, by simpa using h1⟩
theorem pl_nth {n : Int} {es : List Int} (h : permB n es = true) {k x : Nat} (hk : k < es.length) (e : nth es k = (x : Int)) : pl es x = k := by
  have hx : x < es.length := by
    have := okN_elem ((permB_iff.1 h).2 k hk)
    have := (permB_iff.1 h).1
    omega
  have ⟨h1, h2⟩ := pl_spec h hx
  exact perm_inj h h1 hk (by rw [h2, e])
def olds (es : List Int) (k : Nat) : List Int := fmap (fun x => ((pl es x : Nat) : Int)) k
theorem olds_len (es : List Int) (k : Nat) : (olds es k).length = k := fmap_len _ _
theorem olds_nth (es : List Int) {k i : Nat} (h : i < k) : nth (olds es k) i = ((pl es i : Nat) : Int) := fmap_nth _ h
theorem olds_elems {n : Int} {xs es : List Int} (hp : RelP n xs) (h : permB n es = true) : Elems xs.length (olds es es.length) := by
  have h1 := (permB_iff.1 h).1
  have h2 := hp.len
  have h3 := hp.n1
  refine ⟨by rw [olds_len]; omega, fun k hk => ?_⟩
  rw [olds_len] at hk
  exact ⟨pl es k, by have := (pl_spec h hk).1; omega, olds_nth es hk⟩
/-- the set of the new names of the elements below m that are in x -/
def renTo (es : List Int) (x : Int) : Nat → Nat
  | 0 => 0
  | m+1 => if hasB x m then renTo es x m ||| 2 ^ (nth es m).toNat else renTo es x m
theorem renTo_lt {n : Int} {es : List Int} (h : permB n es = true) (hn : n ≤ 10) (x : Int) : ∀ m, m ≤ es.length → renTo es x m < 2 ^ 10
  | 0, _ => by simp [renTo]
  | m+1, hm => by
    have ih := renTo_lt h hn x m (by omega)
    have := okN_elem ((permB_iff.1 h).2 m (by omega))
    simp only [renTo]
    split
    · exact or_lt ih (two_lt (by omega))
    · exact ih
theorem renTo_bit (es : List Int) (x : Int) (b : Nat) : ∀ m, (renTo es x m).testBit b = true ↔ ∃ j, j < m ∧ hasB x j = true ∧ (nth es j).toNat = b
  | 0 => by simp [renTo]
  | m+1 => by
    have ih := renTo_bit es x b m
    simp only [renTo]
    cases hb : hasB x m
    · rw [if_neg (by simp), ih]
      constructor
      · rintro ⟨i, h1, h2, h3⟩
        exact ⟨i, by omega, h2, h3⟩
      · rintro ⟨i, h1, h2, h3⟩
        have : i ≠ m := fun e => by rw [e, hb] at h2; cases h2
        exact ⟨i, by omega, h2, h3⟩
    · rw [if_pos rfl, Nat.testBit_or, Bool.or_eq_true, ih, testBit_two, decide_eq_true_eq]
      constructor
      · rintro (⟨i, h1, h2, h3⟩ | h)
        · exact ⟨i, by omega, h2, h3⟩
        · exact ⟨m, by omega, hb, h⟩
      · rintro ⟨i, h1, h2, h3⟩
        by_cases e : i = m
        · subst e; exact .inr h3
        · exact .inl ⟨i, by omega, h2, h3⟩
theorem partTo_bit (es : List Int) (x : Int) (b : Nat) : ∀ k, (partTo es x k).testBit b = true ↔ b < k ∧ hasB x (nth es b) = true
  | 0 => by simp [partTo]
  | k+1 => by
    have ih := partTo_bit es x b k
    simp only [partTo]
    cases hb : hasB x (nth es k)
    · rw [if_neg (by simp), ih]
      constructor
      · rintro ⟨h1, h2⟩
        exact ⟨by omega, h2⟩
      · rintro ⟨h1, h2⟩
        have : b ≠ k := fun e => by rw [e, hb] at h2; cases h2
        exact ⟨by omega, h2⟩
    · rw [if_pos rfl, Nat.testBit_or, Bool.or_eq_true, ih, testBit_two, decide_eq_true_eq]
      constructor
      · rintro (⟨h1, h2⟩ | h)
        · exact ⟨by omega, h2⟩
        · subst h; exact ⟨by omega, hb⟩
      · rintro ⟨h1, h2⟩
        by_cases e : k = b
        · exact .inr e
        · exact .inl ⟨by omega, h2⟩
def renE (xs es : List Int) (a : Nat) : Int := ((renTo es (nth xs (pl es a)) es.length : Nat) : Int)
def rens (xs es : List Int) : List Int := fmap (renE xs es) es.length
/-- both ways of renaming give the same sets -/
theorem ren_parts {n : Int} {xs es : List Int} (h : permB n es = true) : parts xs (olds es es.length) es.length = rens xs es := by
  unfold parts rens fmap
  apply List.map_congr_left
  intro a ha
  simp only [List.mem_range] at ha
  unfold partE renE
  congr 1
  rw [olds_len, olds_nth es ha, Int.toNat_natCast]
  apply Nat.eq_of_testBit_eq
  intro b
  rw [Bool.eq_iff_iff, partTo_bit, renTo_bit]
  constructor
  · rintro ⟨hb, hh⟩
    rw [olds_nth es hb] at hh
    have ⟨h1, h2⟩ := pl_spec h hb
    exact ⟨pl es b, h1, hh, by rw [h2]; rfl⟩
  · rintro ⟨j, hj, hh, e⟩
    have h0 := okN_elem ((permB_iff.1 h).2 j hj)
    have hl := (permB_iff.1 h).1
    have hb : b < es.length := by omega
    refine ⟨hb, ?_⟩
    have e2 : nth es j = (b : Int) := by omega
    rw [olds_nth es hb, pl_nth h hj e2]
    exact hh
def okR (n : Int) (xs es : List Int) : Bool := relB n xs && permB n es
def renN (n : Int) (xs es : List Int) : Int := if okR n xs es then n else 0
def renL (n : Int) (xs es : List Int) : List Int := if okR n xs es then rens xs es else []
theorem renL_len (n : Int) (xs es : List Int) : (renL n xs es).length ≤ 1048576 := by
  unfold renL
  split
  · rename_i h
    simp only [okR, Bool.and_eq_true] at h
    have hp := relB_p h.1
    have := (permB_iff.1 h.2).1
    have := hp.n1
    rw [rens, fmap_len]
    omega
  · simp

theorem nth_snoc_lt {l : List Int} {x : Int} {k : Nat} (h : k < l.length) : nth (l ++ [x]) k = nth l k := by
  simp [nth, List.getD_eq_getElem?_getD, List.getElem?_append_left h]

theorem nth_snoc_end (l : List Int) (x : Int) : nth (l ++ [x]) l.length = x := by
  simp [nth, List.getD_eq_getElem?_getD]
theorem ptG_at {xs ys l : List Int} {i : Nat} {k : Nat} (h : k < l.length) : ptG xs ys (l ++ [(i : Int)]) k = ((hasB (nth xs (nth l k).toNat) (i : Int) == hasB (nth ys k) (l.length : Int)) && (hasB (nth xs i) (nth l k) == hasB (nth ys l.length) (k : Int))) := by
  simp only [ptG, List.length_append, List.length_singleton, Nat.add_sub_cancel, nth_snoc_end, nth_snoc_lt h, Int.toNat_natCast]
theorem ptG_end {xs ys l : List Int} {i : Nat} : ptG xs ys (l ++ [(i : Int)]) l.length = (hasB (nth xs i) (i : Int) == hasB (nth ys l.length) (l.length : Int)) := by
  simp only [ptG, List.length_append, List.length_singleton, Nat.add_sub_cancel, nth_snoc_end, Int.toNat_natCast, Bool.and_self]
theorem ptW_snoc {xs ys l : List Int} {i : Nat} : ptW xs ys (l ++ [(i : Int)]) = true ↔ (∀ k, k < l.length → ptG xs ys (l ++ [(i : Int)]) k = true) ∧ (hasB (nth xs i) (i : Int) == hasB (nth ys l.length) (l.length : Int)) = true := by
  rw [ptW_iff, ← ptG_end]
  constructor
  · intro h
    exact ⟨fun k hk => h k (by simp; omega), h _ (by simp)⟩
  · rintro ⟨h1, h2⟩ a ha
    rw [List.length_append, List.length_singleton] at ha
    by_cases e : a = l.length
    · rw [e]; exact h2
    · exact h1 a (by omega)

/-- a list of different elements that stand to each other as in the pattern -/
structure PtOk (xs ys L : List Int) : Prop where
  el : ∀ k, k < L.length → ∃ i : Nat, i < xs.length ∧ nth L k = (i : Int)
  ne : ∀ a b, a < L.length → b < L.length → nth L a = nth L b → a = b
  rel : ∀ a b : Nat, a < L.length → b < L.length → hasB (nth xs (nth L a).toNat) (nth L b) = hasB (nth ys a) (b : Int)
theorem memB_not {l : List Int} {i : Int} : memB l i = false ↔ ∀ k, k < l.length → nth l k ≠ i := by
  rw [← Bool.not_eq_true, memB, List.any_eq_true]
  constructor
  · intro h k hk e
    exact h ⟨k, by simpa using hk, by simpa using e⟩
  · rintro h ⟨k, hk, e⟩
    exact h k (by simpa using hk) (by simpa using e)
theorem pt_snoc {xs ys l : List Int} {i : Nat} (hi : i < xs.length) : (PtOk xs ys l ∧ memB l (i : Int) = false ∧ ptW xs ys (l ++ [(i : Int)]) = true) ↔ PtOk xs ys (l ++ [(i : Int)]) := by
  have hl : (l ++ [(i : Int)]).length = l.length + 1 := by simp
  have hend := nth_snoc_end l (i : Int)
  have hlo : ∀ k, k < l.length → nth (l ++ [(i : Int)]) k = nth l k := fun k hk => nth_snoc_lt hk
  constructor
  · rintro ⟨h, hm, hw⟩
    rw [ptW_iff, hl] at hw
    have hg : ∀ a, a ≤ l.length → hasB (nth xs (nth (l ++ [(i : Int)]) a).toNat) (i : Int) = hasB (nth ys a) (l.length : Int) ∧ hasB (nth xs i) (nth (l ++ [(i : Int)]) a) = hasB (nth ys l.length) (a : Int) := fun a ha => by
      have := hw a (by omega)
      rw [ptG, hl, Nat.add_sub_cancel, hend, Bool.and_eq_true, beq_iff_eq, beq_iff_eq, Int.toNat_natCast] at this
      exact this
    refine ⟨fun k hk => ?_, fun a b ha hb e => ?_, fun a b ha hb => ?_⟩
    · by_cases e : k < l.length
      · rw [hlo k e]; exact h.el k e
      · obtain rfl : k = l.length := by omega
        exact ⟨i, hi, hend⟩
    · by_cases ea : a < l.length <;> by_cases eb : b < l.length
      · rw [hlo a ea, hlo b eb] at e; exact h.ne a b ea eb e
      · obtain rfl : b = l.length := by omega
        rw [hlo a ea, hend] at e
        exact absurd e (memB_not.1 hm a ea)
      · obtain rfl : a = l.length := by omega
        rw [hlo b eb, hend] at e
        exact absurd e.symm (memB_not.1 hm b eb)
      · omega
    · by_cases eb : b < l.length
      · by_cases ea : a < l.length
        · rw [hlo a ea, hlo b eb]; exact h.rel a b ea eb
        · obtain rfl : a = l.length := by omega
          rw [hend, Int.toNat_natCast]
          exact (hg b (by omega)).2
      · obtain rfl : b = l.length := by omega
        rw [hend]
        exact (hg a (by omega)).1
  · intro h
    refine ⟨⟨fun k hk => ?_, fun a b ha hb e => ?_, fun a b ha hb => ?_⟩, ?_, ?_⟩
    · have := h.el k (by omega); rw [hlo k hk] at this; exact this
    · exact h.ne a b (by omega) (by omega) (by rw [hlo a ha, hlo b hb]; exact e)
    · have := h.rel a b (by omega) (by omega); rw [hlo a ha, hlo b hb] at this; exact this
    · rw [memB_not]
      intro k hk e
      have := h.ne k l.length (by omega) (by omega) (by rw [hlo k hk, hend]; exact e)
      omega
    · rw [ptW_iff, hl]
      intro a ha
      rw [ptG, hl, Nat.add_sub_cancel, hend, Bool.and_eq_true, beq_iff_eq, beq_iff_eq]
      have h1 := h.rel a l.length (by omega) (by omega)
      have h2 := h.rel l.length a (by omega) (by omega)
      rw [hend] at h1 h2
      exact ⟨h1, h2⟩
theorem PtOk.nil (xs ys : List Int) : PtOk xs ys [] := ⟨fun k hk => by simp at hk, fun a b ha => by simp at ha, fun a b ha => by simp at ha⟩
theorem fpS_ok {xs ys : List Int} : ∀ {d : Nat} {l zs : List Int}, PtOk xs ys l → fpS xs ys d l = some zs → PtOk xs ys zs
  | 0, l, zs, h, e => by simp only [fpS, Option.some.injEq] at e; rw [← e]; exact h
  | d+1, l, zs, h, e => by
    simp only [fpS] at e
    obtain ⟨i, hi, h1, _⟩ := find1_ex e
    split at h1
    · rename_i hc
      rw [Bool.and_eq_true, Bool.not_eq_true'] at hc
      exact fpS_ok ((pt_snoc hi).1 ⟨h, hc.1, hc.2⟩) h1
    · cases h1
theorem find1_is {α : Type} {f : Nat → Option α} {n k : Nat} (hk : k < n) (h : (f k).isSome = true) : (find1 f n).isSome = true := by
  cases e : find1 f n with
  | some x => rfl
  | none =>
    rw [find1, List.findSome?_eq_none_iff] at e
    have := e k (by simpa using hk)
    rw [this] at h; cases h
theorem pt_take {xs ys L : List Int} (h : PtOk xs ys L) : ∀ k, k ≤ L.length → PtOk xs ys (L.take k) := fun k hk => by
  have hl : (L.take k).length = k := by simp; omega
  have hn : ∀ j, j < k → nth (L.take k) j = nth L j := fun j hj => by simp [nth, hj]
  exact ⟨fun j hj => by rw [hl] at hj; rw [hn j hj]; exact h.el j (by omega), fun a b ha hb e => by rw [hl] at ha hb; rw [hn a ha, hn b hb] at e; exact h.ne a b (by omega) (by omega) e, fun a b ha hb => by rw [hl] at ha hb; rw [hn a ha, hn b hb]; exact h.rel a b (by omega) (by omega)⟩
theorem fpS_some {xs ys L : List Int} (h : PtOk xs ys L) : ∀ (d k : Nat), k + d = L.length → (fpS xs ys d (L.take k)).isSome = true
  | 0, k, _ => rfl
  | d+1, k, e => by
    obtain ⟨i, hi, ei⟩ := h.el k (by omega)
    have hs : L.take (k+1) = L.take k ++ [(i : Int)] := by
      rw [List.take_add_one, ← ei]
      congr 1
      simp [nth, List.getElem?_eq_getElem (show k < L.length by omega)]
    have hp := pt_take h (k+1) (by omega)
    rw [hs] at hp
    have ⟨_, h1, h2⟩ := (pt_snoc hi).2 hp
    simp only [fpS]
    refine find1_is hi ?_
    rw [h1, h2]
    simp only [Bool.not_false, Bool.and_self, if_true]
    rw [← hs]
    exact fpS_some h d (k+1) (by omega)
/-- a renamed relation stands in the one that was renamed -/
theorem ren_pt {n : Int} {xs es : List Int} (hx : relB n xs = true) (h : permB n es = true) : PtOk xs (rens xs es) (olds es es.length) := by
  have hp := relB_p hx
  have hl := (permB_iff.1 h).1
  have hxl := hp.len
  have hle : es.length = xs.length := by omega
  have hbit : ∀ a b : Nat, a < es.length → b < es.length → hasB (nth (rens xs es) a) (b : Int) = hasB (nth xs (pl es a)) ((pl es b : Nat) : Int) := fun a b ha hb => by
    rw [← ren_parts h, show nth (parts xs (olds es es.length) es.length) a = partE xs (olds es es.length) a from fmap_nth _ ha, partE, olds_len, olds_nth es ha, Int.toNat_natCast, hasB, Int.toNat_natCast, Int.toNat_natCast, Bool.eq_iff_iff, partTo_bit, olds_nth es hb]
    exact ⟨fun h => h.2, fun h => ⟨hb, h⟩⟩
  refine ⟨fun k hk => ?_, fun a b ha hb e => ?_, fun a b ha hb => ?_⟩
  · rw [olds_len] at hk
    exact ⟨pl es k, by have := (pl_spec h hk).1; omega, olds_nth es hk⟩
  · rw [olds_len] at ha hb
    rw [olds_nth es ha, olds_nth es hb] at e
    have h1 := (pl_spec h ha).2
    have h2 := (pl_spec h hb).2
    have : pl es a = pl es b := by omega
    rw [this] at h1
    omega
  · rw [olds_len] at ha hb
    rw [olds_nth es ha, olds_nth es hb, Int.toNat_natCast, hbit a b ha hb]
theorem ren_has {n : Int} {xs es : List Int} (hx : relB n xs = true) (h : permB n es = true) {i j : Nat} (hi : i < es.length) (hj : j < es.length) : hasB (nth xs i) (j : Int) = hasB (nth (rens xs es) (nth es i).toNat) (nth es j) := by
  have hok := ren_pt hx h
  have e1 := okN_elem ((permB_iff.1 h).2 i hi)
  have e2 := okN_elem ((permB_iff.1 h).2 j hj)
  have hl := (permB_iff.1 h).1
  obtain ⟨a, ea⟩ := Int.eq_ofNat_of_zero_le e1.1
  obtain ⟨b, eb⟩ := Int.eq_ofNat_of_zero_le e2.1
  have ha : a < es.length := by omega
  have hb : b < es.length := by omega
  have h1 := hok.rel a b (by rw [olds_len]; exact ha) (by rw [olds_len]; exact hb)
  rw [olds_nth es ha, olds_nth es hb, Int.toNat_natCast, pl_nth h hi ea, pl_nth h hj eb] at h1
  rw [ea, eb, Int.toNat_natCast]
  exact h1
/-- renamed relations are of the same kind -/
theorem ren_same {n : Int} {xs es : List Int} (hx : relB n xs = true) (h : permB n es = true) : (fpS xs (rens xs es) (rens xs es).length []).isSome = true := by
  have hok := ren_pt hx h
  have := fpS_some hok es.length 0 (by rw [olds_len]; omega)
  rw [show (rens xs es).length = es.length from fmap_len _ _]
  exact this

theorem ren_rel {n : Int} {xs es : List Int} (hx : relB n xs = true) (h : permB n es = true) : relB n (rens xs es) = true := by
  have hp := relB_p hx
  have hl := (permB_iff.1 h).1
  have hrl : (rens xs es).length = es.length := fmap_len _ _
  have hn0 := hp.n0
  have hn1 := hp.n1
  refine relB_iff.2 ⟨⟨by omega, by omega⟩, by omega, ?_⟩
  simp only [allB, List.all_eq_true]
  intro x hx2
  obtain ⟨k, hk, rfl⟩ := mem_nth hx2
  rw [hrl] at hk
  have e : nth (rens xs es) k = ((partTo (olds es es.length) (nth xs (pl es k)) es.length : Nat) : Int) := by
    rw [← ren_parts h, show nth (parts xs (olds es es.length) es.length) k = partE xs (olds es es.length) k from fmap_nth _ hk, partE, olds_len, olds_nth es hk, Int.toNat_natCast]
  have hlt := partTo_lt (olds es es.length) (nth xs (pl es k)) es.length
  have e2 : ((2 ^ es.length : Nat) : Int) = (2 : Int) ^ es.length := by simp
  rw [e, inB_iff, show n.toNat = es.length by omega]
  omega

/-- a block that begins with these three cells -/
def Box3 (w : World) (b : Nat) (u v x : Value) : Prop := b < w.heap.size ∧ w.cell? ⟨b, 0, none⟩ = some u ∧ w.cell? ⟨b, 1, none⟩ = some v ∧ w.cell? ⟨b, 2, none⟩ = some x
theorem Box3.below {w w' : World} {b : Nat} {u v x : Value} (h : Box3 w b u v x) (hb : Below w.heap.size w w') : Box3 w' b u v x :=
  ⟨Nat.lt_of_lt_of_le h.1 hb.size, (hb.cell (p := ⟨b, 0, none⟩) h.1).trans h.2.1, (hb.cell (p := ⟨b, 1, none⟩) h.1).trans h.2.2.1, (hb.cell (p := ⟨b, 2, none⟩) h.1).trans h.2.2.2⟩
theorem Box3.new (w : World) (u v x : Value) (t : TypeId) : Box3 (w.alloc (.cells #[u, v, x] t)) w.heap.size u v x := ⟨by simp, by simp, by simp, by simp⟩
theorem Box3.kept {w w' : World} {b : Nat} {u v x : Value} {row : Option Nat} (h : Box3 w b u v x) (hg : w.grownBy w' row) (hne : some b ≠ row) : Box3 w' b u v x :=
  ⟨Nat.lt_of_lt_of_le h.1 hg.size, hg.cell h.2.1 hne, hg.cell h.2.2.1 hne, hg.cell h.2.2.2 hne⟩
theorem Box3.alloc {w : World} {b : Nat} {u v x : Value} (h : Box3 w b u v x) (o : Obj) : Box3 (w.alloc o) b u v x := h.below ((Below.refl _ _).alloc (Nat.le_refl _) o)
theorem Box3.set {w : World} {b : Nat} {u v x : Value} (h : Box3 w b u v x) {p : Addr} (y : Value) (hne : b ≠ p.block) : Box3 (w.setCell p y) b u v x :=
  h.kept (grown_set w p y) (by simpa using hne)
/-- three cells that may be written -/
def Var3 (w : World) (b : Nat) (u v x : Value) : Prop := Box3 w b u v x ∧ w.frozen? ⟨b, 0, none⟩ = false ∧ w.frozen? ⟨b, 1, none⟩ = false ∧ w.frozen? ⟨b, 2, none⟩ = false
theorem Var3.new (w : World) (u v x : Value) (t : TypeId) : Var3 (w.alloc (.cells #[u, v, x] t)) w.heap.size u v x := ⟨Box3.new w u v x t, by simp, by simp, by simp⟩
theorem Var3.below {w w' : World} {b : Nat} {u v x : Value} (h : Var3 w b u v x) (hb : Below w.heap.size w w') : Var3 w' b u v x :=
  ⟨h.1.below hb, (hb.frozen (p := ⟨b, 0, none⟩) h.1.1).trans h.2.1, (hb.frozen (p := ⟨b, 1, none⟩) h.1.1).trans h.2.2.1, (hb.frozen (p := ⟨b, 2, none⟩) h.1.1).trans h.2.2.2⟩
theorem Var3.alloc {w : World} {b : Nat} {u v x : Value} (h : Var3 w b u v x) (o : Obj) : Var3 (w.alloc o) b u v x := h.below ((Below.refl _ _).alloc (Nat.le_refl _) o)
theorem Var3.kept {w w' : World} {b : Nat} {u v x : Value} {row : Option Nat} (h : Var3 w b u v x) (hg : w.grownBy w' row) (hne : some b ≠ row) : Var3 w' b u v x :=
  ⟨h.1.kept hg hne, (World.frozen?_of_block (w := w) (a := ⟨b, 0, none⟩) (hg.block b h.1.1 hne)).trans h.2.1, (World.frozen?_of_block (w := w) (a := ⟨b, 1, none⟩) (hg.block b h.1.1 hne)).trans h.2.2.1, (World.frozen?_of_block (w := w) (a := ⟨b, 2, none⟩) (hg.block b h.1.1 hne)).trans h.2.2.2⟩
theorem Var3.other {w : World} {b : Nat} {u v x : Value} (h : Var3 w b u v x) {p : Addr} (y : Value) (hne : b ≠ p.block) : Var3 (w.setCell p y) b u v x :=
  h.kept (grown_set w p y) (by simpa using hne)
theorem Var3.set0 {w : World} {b : Nat} {u v x : Value} (h : Var3 w b u v x) (y : Value) : Var3 (w.setCell ⟨b, 0, none⟩ y) b y v x :=
  ⟨⟨by simpa using h.1.1, World.cell?_setCell_same _ _ _ h.1.2.1, by rw [World.cell?_setCell_other _ _ _ _ (by simp)]; exact h.1.2.2.1, by rw [World.cell?_setCell_other _ _ _ _ (by simp)]; exact h.1.2.2.2⟩, by simpa using h.2.1, by simpa using h.2.2.1, by simpa using h.2.2.2⟩
theorem Var3.set1 {w : World} {b : Nat} {u v x : Value} (h : Var3 w b u v x) (y : Value) : Var3 (w.setCell ⟨b, 1, none⟩ y) b u y x :=
  ⟨⟨by simpa using h.1.1, by rw [World.cell?_setCell_other _ _ _ _ (by simp)]; exact h.1.2.1, World.cell?_setCell_same _ _ _ h.1.2.2.1, by rw [World.cell?_setCell_other _ _ _ _ (by simp)]; exact h.1.2.2.2⟩, by simpa using h.2.1, by simpa using h.2.2.1, by simpa using h.2.2.2⟩
theorem Var3.set2 {w : World} {b : Nat} {u v x : Value} (h : Var3 w b u v x) (y : Value) : Var3 (w.setCell ⟨b, 2, none⟩ y) b u v y :=
  ⟨⟨by simpa using h.1.1, by rw [World.cell?_setCell_other _ _ _ _ (by simp)]; exact h.1.2.1, by rw [World.cell?_setCell_other _ _ _ _ (by simp)]; exact h.1.2.2.1, World.cell?_setCell_same _ _ _ h.1.2.2.2⟩, by simpa using h.2.1, by simpa using h.2.2.1, by simpa using h.2.2.2⟩
theorem Var3.set {w : World} {b : Nat} {u v x : Value} (h : Var3 w b u v x) (u' v' x' : Value) : Var3 (((w.setCell ⟨b, 0, none⟩ u').setCell ⟨b, 1, none⟩ v').setCell ⟨b, 2, none⟩ x') b u' v' x' := ((h.set0 u').set1 v').set2 x'

/-- n bytes that can be read -/
structure RdB (w : World) (a : Option Addr) (n : Nat) : Prop where
  cell : ∀ k, k < n → ∃ b off, a = some ⟨b, off, none⟩ ∧ b < w.heap.size ∧ ∃ x : Int, w.cell? ⟨b, off + k, none⟩ = some (.int .u8 x) ∧ 0 ≤ x ∧ x ≤ 255
theorem RdB.kept {w w' : World} {a : Option Addr} {n p : Nat} (h : RdB w a n) (hg : w.grownBy w' (some p)) (hne : 0 < n → ∀ b off, a = some ⟨b, off, none⟩ → b ≠ p) : RdB w' a n :=
  ⟨fun k hk => by
    obtain ⟨b, off, e, hl, x, hc, h0, h1⟩ := h.cell k hk
    exact ⟨b, off, e, Nat.lt_of_lt_of_le hl hg.size, x, hg.cell hc (by have := hne (by omega) b off e; simp; omega), h0, h1⟩⟩
theorem RdB.below {w w' : World} {a : Option Addr} {n : Nat} (h : RdB w a n) (hb : Below w.heap.size w w') : RdB w' a n :=
  ⟨fun k hk => by
    obtain ⟨b, off, e, hl, x, hc, h0, h1⟩ := h.cell k hk
    exact ⟨b, off, e, Nat.lt_of_lt_of_le hl hb.size, x, (hb.cell (p := ⟨b, off + k, none⟩) hl).trans hc, h0, h1⟩⟩
/-- a cursor over bytes, at most at L -/
structure Cur (w : World) (p : Nat) (L : Nat) : Prop where
  ex : ∃ (a : Option Addr) (n cap : Nat) (t s : Int), Var3 w p (.slice a n cap) (.int .i64 t) (.int .u64 s) ∧ 0 ≤ t ∧ t ≤ (L : Int) ∧ n ≤ 1048576 ∧ RdB w a n ∧ (0 < n → ∀ b off, a = some ⟨b, off, none⟩ → b < p)
theorem Cur.mono {w : World} {p L L' : Nat} (h : Cur w p L) (hl : L ≤ L') : Cur w p L' := by
  obtain ⟨a, n, cap, t, s, h1, h2, h3, h4, h5, h6⟩ := h.ex
  exact ⟨a, n, cap, t, s, h1, h2, by omega, h4, h5, h6⟩
theorem Cur.lt {w : World} {p L : Nat} (h : Cur w p L) : p < w.heap.size := by
  obtain ⟨a, n, cap, t, s, h1, _⟩ := h.ex
  exact h1.1.1
theorem Cur.below {w w' : World} {p L : Nat} (h : Cur w p L) (hb : Below w.heap.size w w') : Cur w' p L := by
  obtain ⟨a, n, cap, t, s, h1, h2, h3, h4, h5, h6⟩ := h.ex
  exact ⟨a, n, cap, t, s, h1.below hb, h2, h3, h4, h5.below hb, h6⟩
theorem Cur.kept {w w' : World} {p L : Nat} {row : Option Nat} (h : Cur w p L) (hg : w.grownBy w' row) (hne : ∀ g, row = some g → p < g) : Cur w' p L := by
  obtain ⟨a, n, cap, t, s, h1, h2, h3, h4, h5, h6⟩ := h.ex
  refine ⟨a, n, cap, t, s, h1.kept hg (fun e => by have := hne p e.symm; omega), h2, h3, h4, ⟨fun k hk => ?_⟩, h6⟩
  obtain ⟨b, off, e, hl, x, hc, h0, h1⟩ := h5.cell k hk
  exact ⟨b, off, e, Nat.lt_of_lt_of_le hl hg.size, x, hg.cell hc (fun e2 => by have := hne b e2.symm; have := h6 (by omega) b off e; omega), h0, h1⟩
theorem Cur.set {w : World} {p L : Nat} (h : Cur w p L) (a : Addr) (u : Value) (hne : p < a.block) : Cur (w.setCell a u) p L := h.kept (grown_set w a u) (fun g e => by simp only [Option.some.injEq] at e; omega)
theorem Cur.alloc {w : World} {p L : Nat} (h : Cur w p L) (o : Obj) : Cur (w.alloc o) p L := h.below ((Below.refl _ _).alloc (Nat.le_refl _) o)
/-- all but the cursor's block is as it was -/
def Drawn (w w' : World) (p : Nat) : Prop := w.grownBy w' (some p)
theorem Drawn.refl (w : World) (p : Nat) : Drawn w w p := World.grownBy.refl _ _
theorem Drawn.trans {w w1 w2 : World} {p : Nat} (h : Drawn w w1 p) (h2 : Drawn w1 w2 p) : Drawn w w2 p := grown_trans h h2
theorem Drawn.below {w w1 w2 : World} {p : Nat} (h : Drawn w w1 p) (hb : Below w1.heap.size w1 w2) : Drawn w w2 p := grown_trans h (below_grown hb (Nat.le_refl _) _)
theorem Drawn.alloc {w w1 : World} {p : Nat} (h : Drawn w w1 p) (o : Obj) : Drawn w (w1.alloc o) p := h.below ((Below.refl _ _).alloc (Nat.le_refl _) o)
theorem Drawn.of_alloc {w w1 : World} {o : Obj} {p : Nat} (h : Drawn (w.alloc o) w1 p) : Drawn w w1 p := grown_alloc_set h
theorem Drawn.size {w w1 : World} {p : Nat} (h : Drawn w w1 p) : w.heap.size ≤ w1.heap.size := World.grownBy.size h
/-- a cursor that lies at or above B: what lies below B is as it was -/
theorem Drawn.bel {w w' : World} {p B : Nat} (h : Drawn w w' p) (hp : B ≤ p) (hs : B ≤ w.heap.size) : Below B w w' := grown_below h B hp hs
theorem and255 (a : Int) : ∃ r : Nat, r ≤ 255 ∧ bits .and .u64 a 255 = (r : Int) := by
  have h : (BitVec.ofInt 64 a &&& BitVec.ofInt 64 255).toNat ≤ 255 := by
    rw [BitVec.toNat_and]
    exact Nat.and_le_right
  refine ⟨(BitVec.ofInt 64 a &&& BitVec.ofInt 64 255).toNat, h, ?_⟩
  show IntKind.u64.wrap ((BitVec.ofInt 64 a &&& BitVec.ofInt 64 255).toNat : Int) = _
  obtain ⟨r, hr⟩ : ∃ r, r = (BitVec.ofInt 64 a &&& BitVec.ofInt 64 255).toNat := ⟨_, rfl⟩
  rw [← hr] at h ⊢
  have h2 : ((r : Int)) % (2 ^ 64 : Int) = (r : Int) := Int.emod_eq_of_lt (by omega) (by omega)
  show (if IntKind.u64.signed && ((r : Int) % (2 ^ 64 : Int)) ≥ (2 ^ 63 : Int) then ((r : Int) % (2 ^ 64 : Int)) - (2 ^ 64 : Int) else ((r : Int) % (2 ^ 64 : Int))) = _
  rw [h2]
  rfl
theorem cur_set {w W : World} {p : Nat} {a t s : Value} (h : Var3 w p a t s) (hb : Below w.heap.size w W) (t' s' : Value) (k : Nat) :
    Var3 (((W.setCell ⟨p, 1, none⟩ t').setCell ⟨p, 2, none⟩ s').drewN k) p a t' s' ∧ Drawn w (((W.setCell ⟨p, 1, none⟩ t').setCell ⟨p, 2, none⟩ s').drewN k) p := by
  have h1 := ((h.below hb).set1 t').set2 s'
  have h2 : Drawn w ((W.setCell ⟨p, 1, none⟩ t').setCell ⟨p, 2, none⟩ s') p :=
    grown_trans (below_grown hb (Nat.le_refl _) _) (grown_trans (grown_set W ⟨p, 1, none⟩ t') (grown_set _ ⟨p, 2, none⟩ s'))
  exact ⟨h1.below (Joins.below_draws _ _ _), h2.below (Joins.below_draws _ _ _)⟩
theorem cur_done {w W : World} {p L n cap : Nat} {a : Option Addr} {t : Nat} {t0 s0 s' : Value} (h : Var3 w p (.slice a n cap) t0 s0) (hL : (t : Int) ≤ (L : Int)) (hn : n ≤ 1048576) (hR : RdB w a n) (hne : 0 < n → ∀ b off, a = some ⟨b, off, none⟩ → b < p) (hb : Below w.heap.size w W) {x : Int} (hs' : s' = .int .u64 x) (k : Nat) :
    Cur (((W.setCell ⟨p, 1, none⟩ (.int .i64 ((t : Int) + 1))).setCell ⟨p, 2, none⟩ s').drewN k) p (L+1) ∧ Drawn w (((W.setCell ⟨p, 1, none⟩ (.int .i64 ((t : Int) + 1))).setCell ⟨p, 2, none⟩ s').drewN k) p := by
  subst hs'
  have ⟨h1, h2⟩ := cur_set h hb (.int .i64 ((t : Int) + 1)) (.int .u64 x) k
  exact ⟨⟨a, n, cap, (t : Int) + 1, x, h1, by omega, by omega, hn, hR.kept h2 (fun h b off e => by have := hne h b off e; omega), hne⟩, h2⟩

/-- one number more at the end of a row that is owned -/
theorem push_at {ops : Array Oper} {rest : List Oper} {o : Oper} {a : Act} {Q : Exit → Act → World → Prop} (hgd : o.guard = none) (s x : Operand)
    (ho : o.op = .call { callee := .builtin .append, args := #[s, x], argTypes := #[24, 24] }) {wr : World} {B : Nat} {v : Value} {ys : List Int} {z : Int}
    (hs : a.eval s = v) (hown : OwnI wr B v ys) (hx : a.eval x = .slice (some ⟨wr.heap.size, 0, none⟩) 1 1) (h63 : ys.length ≤ 1048576) (hB : B ≤ wr.heap.size)
    (h : ∀ v' w', OwnI w' B v' (ys ++ [z]) → wr.grownBy w' v.ownBlock → (v'.ownBlock = v.ownBlock ∨ v'.ownBlock = some (wr.heap.size + 1)) → wpList Try.prog ops Q rest (a.put o.dst v') w') :
    wpList Try.prog ops Q (o :: rest) a (wr.alloc (.cells #[.int .i64 z] 3)) := by
  obtain ⟨i0, hi, hz0, hz1, hz2⟩ := info_parts infoInt
  refine wpList_append_own_at _ hgd s x 24 ho B 3 i0 (.int .i64 0) 1 8 Try.underlying24 hi hz0 hz1 hz2 rfl (by decide) v ys.length (ys.map (Value.int .i64)) hs (hown.alloc _) ⟨wr.heap.size, 0, none⟩ 1 1 [.int .i64 z] hx rfl (cell_one_new _ _ _) (by intro u hu; simp at hu; subst hu; rfl) (by unfold maxLen; omega) (by omega) (by simp; omega) ?_
  intro v' w' ho2 hg _ hat
  refine h v' w' ?_ (grown_alloc_set hg) (by simpa using hat)
  unfold OwnI
  rw [List.length_append, List.map_append]
  exact ho2
/-- the same at a step of a region that draws its order; the new number lies somewhere -/
theorem step_push {ops : Array Oper} {o : Oper} {a : Act} {K : Act → World → Prop} {Q : Exit → Act → World → Prop} {E : Prop} (hgd : o.guard = none) (s x : Operand)
    (ho : o.op = .call { callee := .builtin .append, args := #[s, x], argTypes := #[24, 24] }) {W : World} {B g n : Nat} {v : Value} {ys : List Int} {z : Int}
    (hs : a.eval s = v) (hx : a.eval x = .slice (some ⟨g, 0, none⟩) 1 1) (hown : OwnI W B v ys) (hn : ys.length = n) (hz : W.cell? ⟨g, 0, none⟩ = some (.int .i64 z)) (h63 : n ≤ 1048576) (hB : B ≤ W.heap.size)
    (h : ∀ g' cap w', OwnI w' B (.slice (some ⟨g', 0, none⟩) (n + 1) cap) (ys ++ [z]) → W.grownBy w' v.ownBlock → (v.ownBlock = some g' ∨ g' = W.heap.size) → K (a.put o.dst (.slice (some ⟨g', 0, none⟩) (n + 1) cap)) w') :
    if Region.wanted o (yielded ops a.tmps) = true then Oper.wp Try.prog o a W K Q else E := by
  subst hn
  obtain ⟨i0, hi, hz0, hz1, hz2⟩ := info_parts infoInt
  refine step_append_lies W hgd s x 24 ho B 3 i0 (.int .i64 0) 1 8 Try.underlying24 hi hz0 hz1 hz2 rfl (by decide) v ys.length (ys.map (Value.int .i64)) hs hown ⟨g, 0, none⟩ 1 1 [.int .i64 z] hx rfl ?_ (by intro u hu; simp at hu; subst hu; rfl) (by omega) (by unfold maxLen; omega) (by omega) hB W.heap.size rfl ?_
  · intro j u hj
    obtain ⟨hlt, e⟩ := List.getElem?_eq_some_iff.1 hj
    have h0 : j = 0 := by simpa using hlt
    subst h0
    simp at e
    subst e
    rw [Addr.add_lit]; simpa using hz
  · intro g' cap w' ho2 hg hat _
    refine h g' cap w' ?_ hg hat
    unfold OwnI
    rw [List.length_append, List.map_append]
    exact ho2
theorem news_after {w w3 : World} {x : Int} {m : Nat} (h : Below ((w.drewN m).alloc (.cells #[.int .i64 x] 3)).heap.size ((w.drewN m).alloc (.cells #[.int .i64 x] 3)) w3) : w3.cell? ⟨w.heap.size, 0, none⟩ = some (.int .i64 x) :=
  (h.cell (p := ⟨w.heap.size, 0, none⟩) (show w.heap.size < ((w.drewN m).alloc _).heap.size by rw [World.size_alloc]; exact Nat.lt_succ_of_le (Joins.below_draws w.heap.size w m).size)).trans ((show ∀ W : World, (W.alloc (.cells #[.int .i64 x] 3)).cell? ⟨W.heap.size, 0, none⟩ = some (.int .i64 x) from fun W => by simp) (w.drewN m))
theorem below_after {w w3 : World} {m : Nat} {o : Obj} (h : Below ((w.drewN m).alloc o).heap.size ((w.drewN m).alloc o) w3) : Below w.heap.size w w3 :=
  Below.trans ((Joins.below_draws w.heap.size w m).alloc (Joins.below_draws w.heap.size w m).size _) (h.mono (Nat.le_trans (Joins.below_draws w.heap.size w m).size (by simp)))
theorem below_drew {w w3 : World} {m : Nat} (h : Below (w.drewN m).heap.size (w.drewN m) w3) : Below w.heap.size w w3 :=
  Below.trans (Joins.below_draws w.heap.size w m) (h.mono (Joins.below_draws w.heap.size w m).size)
/-- two values that own no block together -/
def SepV (v u : Value) : Prop := ∀ c, v.ownBlock = some c → u.ownBlock ≠ some c
theorem SepV.symm {v u : Value} (h : SepV v u) : SepV u v := fun c e e2 => h c e2 e
/-- the first of two rows has grown -/
theorem SepV.grow {w : World} {B : Nat} {v v' u : Value} {ys : List Int} {m : Nat} (h : SepV v u) (hu : OwnI w B u ys) (hm : w.heap.size ≤ m) (hat : v'.ownBlock = v.ownBlock ∨ v'.ownBlock = some m) : SepV v' u := by
  intro c e e2
  rcases hat with h1 | h1
  · exact h c (h1 ▸ e) e2
  · rw [h1] at e
    have := (hu.lt c e2).2
    simp only [Option.some.injEq] at e
    omega

theorem Var2.drawn {w w' : World} {p b : Nat} {u v : Value} (h : Var2 w b u v) (hd : Drawn w w' p) (hne : b ≠ p) : Var2 w' b u v := h.kept hd (by simpa using hne)
theorem OwnI.drawn {w w' : World} {p B : Nat} {v : Value} {xs : List Int} (h : OwnI w B v xs) (hd : Drawn w w' p) (hp : p < B) : OwnI w' B v xs :=
  h.kept hd (by
    cases e : v.ownBlock with
    | none => exact .inl rfl
    | some c => exact .inr (by have := (h.lt c e).1; simp; omega))
theorem Drawn.grown {w w1 w2 : World} {p : Nat} {v : Value} (h : Drawn w w1 p) (hg : w1.grownBy w2 v.ownBlock) (hB : ∀ c, v.ownBlock = some c → w.heap.size ≤ c) : Drawn w w2 p :=
  ⟨hg.os.trans h.os, hg.tape.trans h.tape, hg.output.trans h.output, Nat.le_trans h.size hg.size, fun k hk hn => (hg.block k (by have := h.size; omega) (fun e => by have := hB k e.symm; omega)).trans (h.block k hk hn)⟩
theorem Drawn.set {w w1 : World} {p : Nat} (h : Drawn w w1 p) (a : Addr) (u : Value) (ha : w.heap.size ≤ a.block) : Drawn w (w1.setCell a u) p :=
  ⟨h.os, h.tape, h.output, by simpa using h.size, fun k hk hn => (Below.heap_setCell w1 a u k (by omega)).trans (h.block k hk hn)⟩
/-- a length that is kept in a block's second cell -/
def lenAt (w : World) (b : Nat) : Nat := match w.cell? ⟨b, 1, none⟩ with | some (.slice _ k _) => k | _ => 0
theorem lenAt_of {w : World} {b k c : Nat} {u : Value} {a : Option Addr} (h : Var2 w b u (.slice a k c)) : lenAt w b = k := by simp [lenAt, h.1.2.2]

set_option maxRecDepth 100000 in
theorem next_any (p L : Nat) (w : World) (h : Cur w p L) (hL : L ≤ 1000000000) :
    Calls Try.prog 141 #[.pointer (some ⟨p, 0, none⟩)] w fun e w' => ∃ r : Int, e = .returned (.int .i64 r) ∧ 0 ≤ r ∧ r ≤ 255 ∧ Cur w' p (L+1) ∧ Drawn w w' p := by
  obtain ⟨a, n, cap, t, s, hV, ht0, htL, hn, hR, hne⟩ := h.ex
  have ⟨⟨zV, cV, dV, eV⟩, fV, gV, kV⟩ := hV
  by_cases hlt : t < (n : Int)
  · obtain ⟨b, off, rfl, hbl, x, hc, hx0, hx1⟩ := hR.cell t.toNat (by omega)
    obtain ⟨t, rfl⟩ := Int.eq_ofNat_of_zero_le ht0
    rw [Int.toNat_natCast] at hc
    have hle : ((t : Int) + 1 ≤ (n : Int)) := by omega
    have hbp : b ≠ p := by have := hne (by omega) b off rfl; omega
    have HV := Lib.hid hV
    have HR := Lib.hid hR
    have HNE := Lib.hid hne
    go_enter Try.func141, Try.ntmps141
    clear hV hR hne
    go_wp2_with fail
    go_quiet (fail)
    go_wp2_with fail
    go_quiet (fail)
    go_wp2_with fail
    go_quiet (fail)
    go_wp2_with fail
    refine bodyPost_ret (v := .int .i64 x) (by simp [results, Try.results141, go_sem]) rfl ?_
    refine ⟨x, rfl, hx0, hx1, ?_⟩
    exact cur_done HV.out htL hn HR.out HNE.out (by first | exact Joins.below_draws _ _ _ | exact (Joins.below_draws _ _ _).trans ((Joins.below_draws _ _ _).mono (by simp))) rfl _
  · obtain ⟨t, rfl⟩ := Int.eq_ofNat_of_zero_le ht0
    have hle : ¬ ((t : Int) + 1 ≤ (n : Int)) := by omega
    have HV := Lib.hid hV
    have HR := Lib.hid hR
    have HNE := Lib.hid hne
    go_enter Try.func141, Try.ntmps141
    clear hV hR hne
    go_wp2_with fail
    go_quiet (fail)
    go_wp2_with fail
    go_quiet (fail)
    go_wp2_with fail
    obtain ⟨r, hr, er⟩ := and255 (IntKind.u64.wrap (IntKind.u64.wrap (IntKind.u64.wrap (s * 6364136223846793005)) + 1442695040888963407) / 1099511627776)
    rw [er]
    have e2 : wrap64 (r : Int) = (r : Int) := IntWalk.wrap64_in _ ⟨by omega, by omega⟩
    rw [e2]
    refine bodyPost_ret (v := .int .i64 (r : Int)) (by simp [results, Try.results141, go_sem]) rfl ?_
    refine ⟨r, rfl, by omega, by omega, ?_⟩
    exact cur_done HV.out htL hn HR.out HNE.out (by first | exact Joins.below_draws _ _ _ | exact (Joins.below_draws _ _ _).trans ((Joins.below_draws _ _ _).mono (by simp))) rfl _

set_option maxRecDepth 100000 in
theorem pick_any (p L : Nat) (n : Int) (w : World) (h : Cur w p L) (hL : L ≤ 900000000) (hn : n ≤ 4611686018427387904) :
    Calls Try.prog 75 #[.pointer (some ⟨p, 0, none⟩), .int .i64 n] w fun e w' => ∃ r : Int, e = .returned (.int .i64 r) ∧ 0 ≤ r ∧ (r < n ∨ r = 0) ∧ Cur w' p (L+2) ∧ Drawn w w' p := by
  by_cases h1 : n ≤ 1
  · go_enter Try.func75, Try.ntmps75
    go_wp2_with fail
    go_ret
    exact ⟨0, rfl, by omega, .inr rfl, h.mono (by omega), Drawn.refl _ _⟩
  · by_cases h2 : 200 < n
    · have H := Lib.hid h
      clear h
      go_enter Try.func75, Try.ntmps75
      go_wp2_with fail
      refine (next_any p L _ H.out (by omega)).mono ?_
      rintro e w1 ⟨r, rfl, hr0, hr1, hc1, hd1⟩
      have HC1 := Lib.hid hc1
      have HD1 := Lib.hid hd1
      clear hc1 hd1
      go_wp2_with fail
      refine (next_any p (L+1) _ HC1.out (by omega)).mono ?_
      rintro e w2 ⟨q, rfl, hq0, hq1, hc2, hd2⟩
      have HC2 := Lib.hid hc2
      have HD2 := Lib.hid hd2
      clear hc2 hd2
      go_wp2_with fail
      go_ret
      refine ⟨_, rfl, Int.emod_nonneg _ (by omega), .inl (Int.emod_lt_of_pos _ (by omega)), HC2.out, HD1.out.trans HD2.out⟩
    · have H := Lib.hid h
      clear h
      go_enter Try.func75, Try.ntmps75
      go_wp2_with fail
      refine (next_any p L _ H.out (by omega)).mono ?_
      rintro e w1 ⟨r, rfl, hr0, hr1, hc1, hd1⟩
      have HC1 := Lib.hid hc1
      have HD1 := Lib.hid hd1
      clear hc1 hd1
      go_wp2_with fail
      go_ret
      refine ⟨_, rfl, Int.emod_nonneg _ (by omega), .inl (Int.emod_lt_of_pos _ (by omega)), HC1.out.mono (by omega), HD1.out⟩

/-- a choice between two -/
def OneB (w : World) (p L : Nat) (e : Ending) (w' : World) : Prop := (e = .returned (.bool true) ∨ e = .returned (.bool false)) ∧ Cur w' p L ∧ Drawn w w' p
theorem one_any (p L : Nat) (n : Int) (w : World) (h : Cur w p L) (hL : L ≤ 900000000) (hn : n ≤ 4611686018427387904) :
    Calls Try.prog 70 #[.pointer (some ⟨p, 0, none⟩), .int .i64 n] w (OneB w p (L+2)) := by
  have H := Lib.hid h
  clear h
  go_enter Try.func70, Try.ntmps70
  go_wp2_with fail
  refine (pick_any p L n _ H.out hL hn).mono ?_
  rintro e w1 ⟨r, rfl, hr0, hr1, hc1, hd1⟩
  have HC1 := Lib.hid hc1
  have HD1 := Lib.hid hd1
  clear hc1 hd1
  cases hz : (r == 0)
  · go_wp2_with fail
    go_ret
    exact ⟨.inr rfl, HC1.out, HD1.out⟩
  · go_wp2_with fail
    go_ret
    exact ⟨.inl rfl, HC1.out, HD1.out⟩
theorem oneB_ex {e : Ending} (h : e = .returned (.bool true) ∨ e = .returned (.bool false)) : ∃ b, e = .returned (.bool b) := h.elim (fun h => ⟨true, h⟩) (fun h => ⟨false, h⟩)

theorem Rd.drawn {w w' : World} {p : Nat} {a : Option Addr} {xs : List Int} (h : Rd w a xs) (hd : Drawn w w' p) (hne : ∀ b off, a = some ⟨b, off, none⟩ → b ≠ p) : Rd w' a xs :=
  ⟨h.len, fun k hk => by
    obtain ⟨b, off, e, hl, hc⟩ := h.cell k hk
    exact ⟨b, off, e, Nat.lt_of_lt_of_le hl hd.size, World.grownBy.cell hd hc (by have := hne b off e; simp; omega)⟩⟩
theorem among_any (p L : Nat) (a : Option Addr) (xs : List Int) (n cap : Nat) (w : World) (h : Cur w p L) (hL : L ≤ 900000000) (hx : Rd w a xs) (hl : xs.length = n) (h0 : 0 < n) (h1 : n ≤ 1000) (hne : ∀ b off, a = some ⟨b, off, none⟩ → b ≠ p) :
    Calls Try.prog 135 #[.pointer (some ⟨p, 0, none⟩), .slice a n cap] w fun e w' => ∃ k, k < n ∧ e = .returned (.int .i64 (nth xs k)) ∧ Cur w' p (L+2) ∧ Drawn w w' p := by
  have H := Lib.hid h
  have HX := Lib.hid hx
  have HNE := Lib.hid hne
  have HL := Lib.hid hl
  clear h hx hne hl
  go_enter Try.func135, Try.ntmps135
  go_wp2_with fail
  refine (pick_any p L (n : Int) _ H.out hL (by omega)).mono ?_
  rintro e w1 ⟨r, rfl, hr0, hr1, hc1, hd1⟩
  have HC1 := Lib.hid hc1
  have HD1 := Lib.hid hd1
  clear hc1 hd1
  obtain ⟨k, rfl⟩ := Int.eq_ofNat_of_zero_le hr0
  have hk : k < n := by omega
  obtain ⟨b, off, rfl, hbl, hc⟩ := (HX.out.drawn HD1.out HNE.out).cell k (by rw [HL.out]; exact hk)
  have k1 : (k : Int) < (n : Int) := by omega
  clear hr0 hr1
  go_wp2_with fail
  go_ret
  exact ⟨k, hk, rfl, HC1.out, HD1.out⟩

set_option maxRecDepth 100000 in
theorem relation_any (p L m : Nat) (w : World) (h : Cur w p L) (hL : L ≤ 800000000) (hm : m ≤ 10) :
    Calls Try.prog 134 #[.pointer (some ⟨p, 0, none⟩), .int .i64 (m : Int)] w fun e w' => ∃ a cap xs, e = .returned (.agg #[.int .i64 (xs.length : Int), .slice a xs.length cap]) ∧ OwnI w' w.heap.size (.slice a xs.length cap) xs ∧ xs.length ≤ m ∧ (∀ k, k < xs.length → 0 ≤ nth xs k ∧ nth xs k < 1024) ∧ Cur w' p (L + 300) ∧ Drawn w w' p := by
  have hpw := h.lt
  have ha : Below w.heap.size w (w.alloc (.cells #[.int .i64 0, .slice none 0 0] 26)) := (by repeat (first | exact Below.refl _ _ | assumption | refine Below.alloc ?_ (by first | exact Nat.le_refl _ | (simp only [World.size_alloc, World.size_setCell, World.size_drew]; omega) | omega) _ | refine Below.setCell ?_ (by first | exact Nat.le_refl _ | (simp only [World.size_alloc, World.size_setCell, World.size_drew]; omega) | omega) _ | refine Below.drew ?_))
  have H := Lib.hid (h.below ha)
  have HR := Lib.hid (Var2.new w (.int .i64 0) (.slice none 0 0) 26)
  clear h
  go_enter Try.func134, Try.ntmps134
  go_wp2_with fail
  refine (pick_any p L ((m : Int) + 1) _ H.out (by omega) (by omega)).mono ?_
  rintro e w1 ⟨r, rfl, hr0, hr1, hc1, hd1⟩
  obtain ⟨n, rfl⟩ := Int.eq_ofNat_of_zero_le hr0
  have hn : n ≤ m := by omega
  have hs1 : w.heap.size + 1 ≤ w1.heap.size := by have := hd1.size; simpa using this
  have HC1 := Lib.hid hc1
  have HD1 := Lib.hid hd1
  clear hc1 hd1 hr0 hr1
  go_wp2_with fail
  have HB1 := Lib.hid (Var2.new w1 (.int .i64 (n : Int)) (.slice none 0 0) 26)
  have HR1 := Lib.hid ((HR.out.drawn HD1.out (by omega)).alloc (.cells #[.int .i64 (n : Int), .slice none 0 0] 26))
  have HC2 := Lib.hid (HC1.out.below ((Below.refl w1.heap.size w1).alloc (Nat.le_refl _) (.cells #[.int .i64 (n : Int), .slice none 0 0] 26)))
  go_loopw [6, 7] (fun _ _ wr => ∃ (a : Option Addr) (cap : Nat) (xs : List Int), xs.length ≤ n ∧ Var2 wr w1.heap.size (.int .i64 (n : Int)) (.slice a xs.length cap) ∧ OwnI wr (w1.heap.size + 1) (.slice a xs.length cap) xs ∧ (∀ k, k < xs.length → 0 ≤ nth xs k ∧ nth xs k < 1024) ∧ Cur wr p (L + 2 + 20 * xs.length) ∧ Var2 wr w.heap.size (.int .i64 0) (.slice none 0 0) ∧ Drawn w wr p) (fun _ _ wr => n - lenAt wr w1.heap.size)
  case atStart => exact ⟨none, 0, [], by simp, HB1.out, OwnI.nil _ _, fun k hk => by simp at hk, HC2.out.mono (by simp), HR1.out, HD1.out.of_alloc.alloc _⟩
  case round =>
    obtain ⟨a, cap, xs, hk, hV, ho, hx, hc, hR, hd⟩ := hrel
    have hds := hd.size
    have ⟨⟨zV, cV, dV⟩, fV, gV⟩ := hV
    by_cases hlt : xs.length < n
    · have k1 : (xs.length : Int) < (n : Int) := by omega
      have HV := Lib.hid hV
      have HO := Lib.hid ho
      have HX := Lib.hid hx
      have HC := Lib.hid hc
      have HR := Lib.hid hR
      have HD := Lib.hid hd
      obtain ⟨W1, hW1⟩ : ∃ x : World, x = wr := ⟨_, rfl⟩
      subst hW1
      clear hV ho hx hc hR hd
      go_wp2_with fail
      go_loopw [6, 7] (fun s j wr => ∃ (k S : Nat), k ≤ n ∧ j = .int .i64 k ∧ s = .int .i64 (S : Int) ∧ S < 2 ^ k ∧ Cur wr p (L + 2 + 20 * xs.length + 2 * k) ∧ Drawn W1 wr p) (fun _ j _ => n - (intOf j).toNat)
      case atStart => exact ⟨0, 0, by omega, rfl, rfl, by simp, HC.out, Drawn.refl _ _⟩
      case round =>
        obtain ⟨k, S, hk2, rfl, rfl, hS, hc2, hd2⟩ := hrel
        have hds2 := hd2.size
        have hV2 := HV.out.drawn hd2 (by omega)
        have ⟨⟨zV2, cV2, dV2⟩, fV2, gV2⟩ := hV2
        by_cases hlt2 : k < n
        · have k2 : (k : Int) < (n : Int) := by omega
          have HC2 := Lib.hid hc2
          have HD2 := Lib.hid hd2
          clear hc2 hd2 hV2
          go_wp2_with fail
          refine (one_any p (L + 2 + 20 * xs.length + 2 * k) 4 _ HC2.out (by omega) (by omega)).mono ?_
          rintro e w3 ⟨he, hc3, hd3⟩
          have HC3 := Lib.hid hc3
          have HD3 := Lib.hid (HD2.out.trans hd3)
          have hsb : S < 4611686018427387904 := by
            have : 2 ^ k ≤ 2 ^ 10 := Nat.pow_le_pow_right (by omega) (by omega)
            omega
          have hor := Lib.hid (or_bit (b := S) (k := k) hsb (by omega))
          have h2k : (2 : Nat) ^ k < 2 ^ (k + 1) := two_lt (by omega)
          have hS1 : S ||| 2 ^ k < 2 ^ (k + 1) := or_lt (by omega) h2k
          have hS0 : S < 2 ^ (k + 1) := by omega
          clear hc3 hd3
          rcases he with rfl | rfl
          · go_wp2_with fail
            go_roundw
            case rel => exact ⟨k + 1, S ||| 2 ^ k, by omega, by go_num, val_int hor.out, hS1, HC3.out.mono (by omega), HD3.out⟩
            case measure => simp [intOf]; omega
          · go_wp2_with fail
            go_roundw
            case rel => exact ⟨k + 1, S, by omega, by go_num, rfl, hS0, HC3.out.mono (by omega), HD3.out⟩
            case measure => simp [intOf]; omega
        · obtain rfl : k = n := by omega
          have HO2 := Lib.hid (HO.out.drawn hd2 (by omega))
          have HC2 := Lib.hid hc2
          have HD2 := Lib.hid hd2
          have HV2 := Lib.hid hV2
          clear hc2 hd2 hV2
          have hlo := HO2.out.lt
          have HLO := Lib.hid hlo
          have hWs : w1.heap.size + 1 ≤ wr.heap.size := by omega
          clear hlo
          go_wp2_with (at_builtin; refine push_at (v := .slice a xs.length cap) (z := (S : Int)) rfl _ _ rfl rfl HO2.out rfl (by omega) hWs ?_; intro v7 w7 o7 hg7 hat7; revert hat7)
          intro hat7
          have hV7 := HV2.out.kept hg7 (ne_own (fun c e => by have := (HLO.out c e).1; omega))
          have ⟨⟨zV7, cV7, dV7⟩, fV7, gV7⟩ := hV7
          obtain ⟨av7, cv7, ev7⟩ := o7.form
          subst ev7
          rw [show (xs ++ [(S : Int)]).length = xs.length + 1 by simp] at o7 ⊢
          have hc7 := HC2.out.kept hg7 (fun g e => by have := (HLO.out g e).1; omega)
          have hR7 := ((HR.out.drawn HD2.out (by omega)).kept hg7 (ne_own (fun c e => by have := (HLO.out c e).1; omega)))
          have hd7 := (HD.out.trans HD2.out).grown hg7 (fun c e => by have := (HLO.out c e).1; omega)
          have H7 := Lib.hid (And.intro (hV7.set1 (.slice av7 (xs.length + 1) cv7)) (And.intro (o7.setBelow (p := ⟨w1.heap.size, 1, none⟩) (show w1.heap.size < w1.heap.size + 1 by omega) (.slice av7 (xs.length + 1) cv7)) (And.intro (hc7.set ⟨w1.heap.size, 1, none⟩ (.slice av7 (xs.length + 1) cv7) (show p < w1.heap.size by omega)) (And.intro (hR7.other (p := ⟨w1.heap.size, 1, none⟩) (.slice av7 (xs.length + 1) cv7) (show w.heap.size ≠ w1.heap.size by omega)) (hd7.set ⟨w1.heap.size, 1, none⟩ (.slice av7 (xs.length + 1) cv7) (show w.heap.size ≤ w1.heap.size by omega))))))
          clear o7 hg7 hat7 hV7 hc7 hR7 hd7
          go_wp2_with fail
          have HL9 : Hid ((xs ++ [(S : Int)]).length = xs.length + 1) := by simp [Hid]
          have HX9 : Hid (∀ k, k < (xs ++ [(S : Int)]).length → 0 ≤ nth (xs ++ [(S : Int)]) k ∧ nth (xs ++ [(S : Int)]) k < 1024) := fun j hj => by
            by_cases e : j < xs.length
            · rw [nth_snoc_lt e]; exact HX.out j e
            · obtain rfl : j = xs.length := by simp at hj; omega
              rw [nth_snoc_end]
              have : 2 ^ k ≤ 2 ^ 10 := Nat.pow_le_pow_right (by omega) (by omega)
              omega
          go_roundw
          case rel => exact ⟨av7, cv7, xs ++ [(S : Int)], by rw [HL9.out]; omega, by rw [HL9.out]; exact H7.out.1, by rw [HL9.out]; exact H7.out.2.1, HX9.out, H7.out.2.2.1.mono (by rw [HL9.out]; omega), H7.out.2.2.2.1, H7.out.2.2.2.2⟩
          case measure => rw [lenAt_of H7.out.1, lenAt_of HV.out]; omega
    · obtain rfl : xs.length = n := by omega
      have ⟨⟨zR, cR, dR⟩, fR, gR⟩ := hR
      have HO := Lib.hid ho
      have HR := Lib.hid hR
      have HX := Lib.hid hx
      have HC := Lib.hid hc
      have HD := Lib.hid hd
      clear hV ho hx hc hR hd
      go_wp2_with fail
      have R3 := HR.out.set (.int .i64 (xs.length : Int)) (.slice a xs.length cap)
      refine bodyPost_ret (v := .agg #[.int .i64 (xs.length : Int), .slice a xs.length cap]) (by have ⟨⟨_, q1, q2⟩, _, _⟩ := R3; simp [results, Try.results134, go_sem, q1, q2]) rfl ?_
      refine ⟨a, cap, xs, rfl, ((HO.out.setBelow (show w.heap.size < w1.heap.size + 1 by omega) _).setBelow (show w.heap.size < w1.heap.size + 1 by omega) _).mono (by omega), hn, HX.out, ?_, ?_⟩
      · exact ((HC.out.set _ _ (show p < w.heap.size by omega)).set _ _ (show p < w.heap.size by omega)).mono (by omega)
      · exact (HD.out.set _ _ (Nat.le_refl _)).set _ _ (Nat.le_refl _)

theorem l1In_any (n lo hi : Int) (w : World) :
    Calls Try.prog 136 #[.int .i64 n, .int .i64 lo, .int .i64 hi] w fun e w' => e = .returned (.bool (inB n lo hi)) ∧ w = w' := by
  go_enter Try.func136, Try.ntmps136
  go_wp2
  all_goals (go_ret; exact ⟨ret_bool (by simp [inB]; try omega), rfl⟩)
theorem l1In_is {n lo hi : Int} {b : Bool} (h : inB n lo hi = b) (w : World) (m : Nat) :
    Calls Try.prog 136 #[.int .i64 n, .int .i64 lo, .int .i64 hi] (w.drewN m) fun e w' => e = .returned (.bool b) ∧ ∃ k, w' = w.drewN k :=
  Calls.quiet_of_same ((l1In_any n lo hi (w.drewN m)).mono (fun e w' hh => ⟨by rw [← h]; exact hh.1, hh.2.symm⟩))

theorem l1All_any (a : Option Addr) (xs : List Int) (cap : Nat) (lo hi : Int) (w : World) (hx : Rd w a xs) :
    Calls Try.prog 137 #[.slice a xs.length cap, .int .i64 lo, .int .i64 hi] w fun e w' => e = .returned (.bool (allB xs lo hi)) ∧ w = w' := by
  have hlen := hx.len
  go_enter Try.func137, Try.ntmps137
  go_wp2_with fail
  go_loop [11] (fun i => ∃ k : Nat, k ≤ xs.length ∧ i = .int .i64 k ∧ allB (xs.take k) lo hi = true) (fun i => xs.length - (intOf i).toNat)
  case atStart => exact ⟨0, Nat.zero_le _, rfl, rfl⟩
  case round =>
    obtain ⟨k, hk, rfl, hall⟩ := hrel
    by_cases hlt : k < xs.length
    · obtain ⟨b, off, rfl, hbl, hc⟩ := hx.cell k hlt
      cases hin : inB (nth xs k) lo hi
      · have hf := Lib.hid (allB_false hlt hin)
        go_wp2_with (go_at_call 136; refine (l1In_any _ _ _ _).mono ?_; rintro e w' ⟨rfl, rfl⟩)
        go_ret
        exact ⟨ret_bool hf.out.symm, rfl⟩
      · go_wp2_with (go_at_call 136; refine (l1In_any _ _ _ _).mono ?_; rintro e w' ⟨rfl, rfl⟩)
        go_round
        case rel => exact ⟨k + 1, by omega, by go_num, by rw [allB_take _ _ _ _ hlt, hall, hin]; rfl⟩
        case measure => simp [intOf]; omega
    · go_wp2_with fail
      go_ret
      exact ⟨ret_bool (by rw [← hall, List.take_of_length_le (by omega)]), rfl⟩
theorem l1All_is {a : Option Addr} {xs : List Int} {cap : Nat} {lo hi : Int} {b : Bool} {w : World} (hx : Rd w a xs) (h : allB xs lo hi = b) (m : Nat) :
    Calls Try.prog 137 #[.slice a xs.length cap, .int .i64 lo, .int .i64 hi] (w.drewN m) fun e w' => e = .returned (.bool b) ∧ ∃ k, w' = w.drewN k :=
  Calls.quiet_of_same ((l1All_any a xs cap lo hi (w.drewN m) (hx.below (Joins.below_draws _ _ _))).mono (fun e w' hh => ⟨by rw [← h]; exact hh.1, hh.2.symm⟩))

theorem orRelation_any (n : Int) (a : Option Addr) (xs : List Int) (cap : Nat) (w : World) (hx : Rd w a xs) :
    Calls Try.prog 69 #[.agg #[.int .i64 n, .slice a xs.length cap]] w fun e w' => e = .returned (.bool (relB n xs)) ∧ Below w.heap.size w w' := by
  have hx1 := hx.alloc (.cells #[.int .i64 n, .slice a xs.length cap] 26)
  cases h1 : inB n 0 10
  · have HR : Hid (relB n xs = false) := by simp [Hid, relB, h1]
    go_enter Try.func69, Try.ntmps69
    go_wp2_with fail
    go_quiet ((go_at_call 136; exact l1In_is h1 _ _))
    go_wp2_with fail
    go_ret
    exact ⟨ret_bool HR.out.symm, (Below.refl _ _).alloc (Nat.le_refl _) _ |>.trans (Joins.below_draws _ _ _)⟩
  · have hn := inB_iff.1 h1
    cases h2 : ((xs.length : Int) == n)
    · have HR : Hid (relB n xs = false) := by
        have : ¬ (xs.length : Int) = n := by simpa using h2
        simp [Hid, relB, h1, this]
      go_enter Try.func69, Try.ntmps69
      go_wp2_with fail
      go_quiet ((go_at_call 136; exact l1In_is h1 _ _))
      go_wp2_with fail
      go_ret
      exact ⟨ret_bool HR.out.symm, (Below.refl _ _).alloc (Nat.le_refl _) _ |>.trans (Joins.below_draws _ _ _)⟩
    · cases h3 : allB xs 0 (wrap64 (wrap64 (2 ^ n.toNat) - 1))
      all_goals
        have HR : Hid (relB n xs = allB xs 0 (wrap64 (wrap64 (2 ^ n.toNat) - 1))) := by
          have : (xs.length : Int) = n := by simpa using h2
          simp only [Hid, relB, h1, this, full_eq hn.1 hn.2]
          simp
        have H3 := Lib.hid h3
        clear h3
        go_enter Try.func69, Try.ntmps69
        go_wp2_with fail
        go_quiet ((first | (go_at_call 136; exact l1In_is h1 _ _) | (go_at_call 137; exact l1All_is hx1 H3.out _)))
        go_wp2_with fail
        go_ret
        exact ⟨ret_bool (by rw [HR.out, H3.out]), (Below.refl _ _).alloc (Nat.le_refl _) _ |>.trans (Joins.below_draws _ _ _)⟩

theorem wpList_append_none {P : Program} {w : World} {ops : Array Oper} {rest : List Oper} {o : Oper} {a : Act} {Q : Exit → Act → World → Prop} (hgd : o.guard = none) (s x : Operand) (t : TypeId)
    (ho : o.op = .call { callee := .builtin .append, args := #[s, x], argTypes := #[t, t] })
    (base : Nat) (e : TypeId) (i : TypeInfo) (size : Nat) (ht : P.underlying t = some (.slice e)) (hi : P.info? e = some i)
    (v : Value) (n c : Nat) (xs : List Value) (hs : a.eval s = v) (hown : w.ownsRow base e size v n xs) (hx : a.eval x = .slice none 0 c)
    (h : wpList P ops Q rest (a.put o.dst v) w) : wpList P ops Q (o :: rest) a w := by
  refine wpList_plain hgd fun K hK => ?_
  have hrun : (Builtin.append_ #[t, t] o.type #[v, .slice none 0 c]).run P w = .ok v w := by
    rcases hown.2 with ⟨rfl, rfl⟩ | ⟨g, cap, cur, rfl, _, _, hnc, _⟩
    · simp [Builtin.append_, run_underlying ht, sizeOf, typeInfo, hi, Builtin.lenOf, Builtin.firstCells]
    · simp [Builtin.append_, run_underlying ht, sizeOf, typeInfo, hi, Builtin.lenOf, Builtin.firstCells, hnc, storeCells]
  unfold Oper.wp
  simp [execOp, ho, resolve, invoke, builtin, hs, hx, hrun, Result.andThen]
  exact hK _ _ h
theorem rd_news {w : World} {ad : Addr} {xs : List Int} (hx : Rd w (some ad) xs) : ∀ j u, (xs.map (Value.int .i64))[j]? = some u → w.cell? (ad.add j) = some u := by
  intro j u hj
  rw [List.getElem?_map, Option.map_eq_some_iff] at hj
  obtain ⟨x, hx1, rfl⟩ := hj
  obtain ⟨hlt, e⟩ := List.getElem?_eq_some_iff.1 hx1
  obtain ⟨b, off, e1, _, hc⟩ := hx.cell j hlt
  simp only [Option.some.injEq] at e1
  subst e1
  rw [Addr.add_lit, hc, nth_get xs j hlt, e]
theorem ints_one (xs : List Int) : ∀ u ∈ xs.map (Value.int .i64), u.oneCell' = true := by
  intro u hu
  obtain ⟨x, _, rfl⟩ := List.mem_map.1 hu
  rfl

theorem l1Own_any (a : Option Addr) (xs : List Int) (cap : Nat) (w : World) (hx : Rd w a xs) (hn : xs.length ≤ 1048576) :
    Calls Try.prog 146 #[.slice a xs.length cap] w fun e w' => ∃ a' cap', e = .returned (.slice a' xs.length cap') ∧ OwnI w' w.heap.size (.slice a' xs.length cap') xs ∧ Below w.heap.size w w' := by
  obtain ⟨i0, hi, hz0, hz1, hz2⟩ := info_parts infoInt
  have hown : (w.alloc (.cells #[] 3)).ownsRow w.heap.size 3 1 (.slice (some ⟨w.heap.size, 0, none⟩) 0 0) 0 [] := World.ownsRow_lit w #[] 0 (Nat.le_refl _) (by simp [maxLen]) (by simp)
  cases a with
  | none =>
    have h0 : xs = [] := by
      rcases xs with _ | ⟨x, t⟩
      · rfl
      · obtain ⟨b, off, e, _⟩ := hx.cell 0 (by simp)
        cases e
    subst h0
    go_enter Try.func146, Try.ntmps146
    go_wp2_with (at_builtin; refine wpList_append_none rfl _ _ 24 rfl w.heap.size 3 i0 1 Try.underlying24 hi _ 0 _ [] rfl hown rfl ?_)
    go_wp2_with fail
    go_ret
    exact ⟨_, _, rfl, hown, (by repeat (first | exact Below.refl _ _ | assumption | refine Below.alloc ?_ (by first | exact Nat.le_refl _ | (simp only [World.size_alloc, World.size_setCell, World.size_drew]; omega) | omega) _ | refine Below.setCell ?_ (by first | exact Nat.le_refl _ | (simp only [World.size_alloc, World.size_setCell, World.size_drew]; omega) | omega) _ | refine Below.drew ?_))⟩
  | some ad =>
    have hx1 := hx.alloc (.cells #[] 3)
    go_enter Try.func146, Try.ntmps146
    go_wp2_with (at_builtin; refine wpList_append_own _ rfl _ _ 24 rfl w.heap.size 3 i0 (.int .i64 0) 1 8 Try.underlying24 hi hz0 hz1 hz2 rfl (by decide) _ 0 [] rfl hown ad xs.length cap (xs.map (Value.int .i64)) rfl (by simp) ?c1 ?c2 ?c3 ?c4 ?c5 ?_)
    case c1 => exact rd_news hx1
    case c2 => exact ints_one xs
    case c3 => unfold maxLen; omega
    case c4 => omega
    case c5 => simp
    · intro v' w1 hown' hgrow _
      try simp only [Nat.zero_add, List.nil_append] at hown'
      have hb : Below w.heap.size w w1 := ((Below.refl _ _).alloc (Nat.le_refl _) _).grown hgrow (by simp) (fun b e => by simp [Value.ownBlock] at e; omega)
      obtain ⟨a', cap', rfl⟩ := OwnI.form (xs := xs) hown'
      have HO := Lib.hid hown'
      clear hown' hgrow hown
      go_wp2_with fail
      go_ret
      exact ⟨a', cap', rfl, HO.out, hb⟩

theorem orHas_any (s i : Int) (w : World) (h0 : 0 ≤ s) (h1 : s ≤ 9223372036854775807) (hi : 0 ≤ i) :
    Calls Try.prog 140 #[.int .i64 s, .int .i64 i] w fun e w' => e = .returned (.bool (hasB s i)) ∧ w = w' := by
  have H := Lib.hid (has_mod h0 h1 hi)
  go_enter Try.func140, Try.ntmps140
  go_wp2
  go_ret
  exact ⟨ret_bool H.out, rfl⟩

def belows (xs : List Int) (k : Nat) : List Int := fmap (fun i => ((belowTo xs i xs.length : Nat) : Int)) k
theorem belows_len (xs : List Int) (k : Nat) : (belows xs k).length = k := fmap_len _ _

def mirN (n : Int) (xs : List Int) : Int := if relB n xs then n else 0
def mirL (n : Int) (xs : List Int) : List Int := if relB n xs then belows xs xs.length else []
theorem mirL_len (n : Int) (xs : List Int) : (mirL n xs).length ≤ 1048576 := by
  unfold mirL
  split
  · rename_i h
    have hp := relB_p h
    have := hp.len
    have := hp.n1
    rw [belows_len]
    omega
  · simp
/-- what a call hands back that makes an order -/
def GotO (w : World) (n : Int) (ys : List Int) (ok : Bool) (e : Ending) (w' : World) : Prop :=
  ∃ a cap, e = .returned (.tuple #[.agg #[.int .i64 n, .slice a ys.length cap], .bool ok]) ∧ OwnI w' w.heap.size (.slice a ys.length cap) ys ∧ Below w.heap.size w w'

theorem sCloseRelation_any (n : Int) (a : Option Addr) (xs : List Int) (cap : Nat) (w : World) (hn : -9223372036854775808 ≤ n ∧ n ≤ 9223372036854775807) (hx : Rd w a xs) :
    Calls Try.prog 184 #[.agg #[.int .i64 n, .slice a xs.length cap]] w (GotO w (cloN n xs) (cloL n xs) (relB n xs)) := by
  have hx1 := (hx.alloc (.cells #[.int .i64 n, .slice a xs.length cap] 26)).alloc (.cells #[.int .i64 0, .slice none 0 0] 26)
  cases hr : relB n xs
  · have H1 : Hid (cloN n xs = 0) := by simp [Hid, cloN, hr]
    have H2 : Hid (cloL n xs = []) := by simp [Hid, cloL, hr]
    go_enter Try.func184, Try.ntmps184
    go_wp2_with fail
    refine (orRelation_any _ _ _ _ _ hx1).mono ?_
    rintro e w1 ⟨rfl, hb1⟩
    have hz := hb1.size
    simp only [World.size_alloc] at hz
    obtain ⟨hc, hf⟩ := bcell hb1
    have bw1 : Below w.heap.size w w1 := Below.trans (by repeat (first | exact Below.refl _ _ | assumption | refine Below.alloc ?_ (by first | exact Nat.le_refl _ | (simp only [World.size_alloc, World.size_setCell, World.size_drew]; omega) | omega) _ | refine Below.setCell ?_ (by first | exact Nat.le_refl _ | (simp only [World.size_alloc, World.size_setCell, World.size_drew]; omega) | omega) _ | refine Below.drew ?_)) (hb1.mono (by first | (simp only [World.size_alloc, World.size_setCell, World.size_drew]; omega) | omega))
    go_wp2_with fail
    refine bodyPost_ret (v := .tuple #[.agg #[.int .i64 0, .slice none 0 0], .bool false]) (by simp [results, Try.results184, go_sem, hc]) rfl ?_
    refine ⟨none, 0, ?_, ?_, ?_⟩
    · rw [H1.out, H2.out]; rfl
    · rw [H2.out]; exact OwnI.nil _ _
    · exact (bw1.setCell (by simp) _).setCell (by simp) _
  · have hp := relB_p hr
    have hsm := hp.sm
    have hl10 : xs.length ≤ 10 := by have := hp.len; have := hp.n1; omega
    have H1 : Hid (cloN n xs = n) := by simp [Hid, cloN, hr]
    have H2 : Hid (cloL n xs = clAll xs xs.length) := by simp [Hid, cloL, hr]
    go_enter Try.func184, Try.ntmps184
    go_wp2_with fail
    refine (orRelation_any _ _ _ _ _ hx1).mono ?_
    rintro e w1 ⟨rfl, hb1⟩
    have A1 : Box2 w1 w.heap.size (.int .i64 n) (.slice a xs.length cap) := ((Box2.new w _ _ _).below ((Below.refl _ _).alloc (Nat.le_refl _) _)).below hb1
    have R1 : Var2 w1 (w.heap.size + 1) (.int .i64 0) (.slice none 0 0) := by
      have := (Var2.new (w.alloc (.cells #[.int .i64 n, .slice a xs.length cap] 26)) (.int .i64 0) (.slice none 0 0) 26).below hb1
      simpa using this
    have ⟨zA, cA, dA⟩ := A1
    have bw1 : Below w.heap.size w w1 := Below.trans (by repeat (first | exact Below.refl _ _ | assumption | refine Below.alloc ?_ (by first | exact Nat.le_refl _ | (simp only [World.size_alloc, World.size_setCell, World.size_drew]; omega) | omega) _ | refine Below.setCell ?_ (by first | exact Nat.le_refl _ | (simp only [World.size_alloc, World.size_setCell, World.size_drew]; omega) | omega) _ | refine Below.drew ?_)) (hb1.mono (by first | (simp only [World.size_alloc, World.size_setCell, World.size_drew]; omega) | omega))
    have hz1 : w.heap.size + 2 ≤ w1.heap.size := by have := R1.1.1; omega
    clear hb1
    go_wp2_with fail
    go_cut [4] (fun s4 wx => ∃ (b4 : Nat) (a2 : Option Addr) (cap2 : Nat), s4 = .pointer (some ⟨b4, 0, none⟩) ∧ Box2 wx b4 (.int .i64 n) (.slice a2 xs.length cap2) ∧ OwnI wx (w.heap.size + 2) (.slice a2 xs.length cap2) xs ∧ (∀ b, (Value.slice a2 xs.length cap2).ownBlock = some b → b ≠ b4) ∧ w.heap.size + 2 ≤ b4 ∧ Below w.heap.size w wx ∧ Var2 wx (w.heap.size + 1) (.int .i64 0) (.slice none 0 0))
    case first =>
      go_region_held3 (fun w' => w'.cell? ⟨w.heap.size, 0, none⟩ = some (.int .i64 n) ∧ w'.cell? ⟨w.heap.size, 1, none⟩ = some (.slice a xs.length cap))
        (first | exact ⟨A3.2.1, A3.2.2⟩ | exact ⟨A2.2.1, A2.2.2⟩ | exact ⟨(A1.below ((Below.refl _ _).alloc (Nat.le_refl _) _).drew).2.1, (A1.below ((Below.refl _ _).alloc (Nat.le_refl _) _).drew).2.2⟩ | exact ⟨(A2.below ((Below.refl _ _).alloc (Nat.le_refl _) _)).2.1, (A2.below ((Below.refl _ _).alloc (Nat.le_refl _) _)).2.2⟩ | go_keep)
        (first | (go_at_call 146; refine (l1Own_any _ _ _ (w1.alloc (.cells #[.int .i64 0, .slice none 0 0] 26)).drew (hx.below (bw1.alloc bw1.size _).drew) (by omega)).mono ?_; rintro e w2 ⟨a2, cap2, rfl, ho2, hb2⟩; have ht2 : Below w1.heap.size w1 w2 := Below.trans ((Below.refl _ _).alloc (Nat.le_refl _) (.cells #[.int .i64 0, .slice none 0 0] 26)).drew (hb2.mono (by simp)); have A2 := A1.below ht2; have A3 := (A2.set (p := ⟨w1.heap.size, 0, none⟩) (.int .i64 n) (show w.heap.size ≠ w1.heap.size by omega)).set (p := ⟨w1.heap.size, 1, none⟩) (.slice a2 xs.length cap2) (show w.heap.size ≠ w1.heap.size by omega); have V2 : Var2 w2 w1.heap.size (.int .i64 0) (.slice none 0 0) := Var2.below (w := (w1.alloc (.cells #[.int .i64 0, .slice none 0 0] 26)).drew) (Var2.new w1 _ _ _) hb2; have ⟨⟨zV2, cV2, dV2⟩, fV2, gV2⟩ := V2) | (go_at_call 146; refine (l1Own_any _ _ _ w1.drew (hx.below bw1.drew) (by omega)).mono ?_; rintro e w2 ⟨a2, cap2, rfl, ho2, hb2⟩; have ht2 : Below w1.heap.size w1 w2 := Below.trans (Below.refl _ w1).drew (hb2.mono (show w1.heap.size ≤ w1.heap.size by omega)); have A2 := A1.below ht2; have z12 : w1.heap.size ≤ w2.heap.size := ht2.size))
      all_goals go_wp2_with fail
      · go_meet
        have bw2 := bw1.trans (ht2.mono bw1.size)
        have ho3 : OwnI w2 (w.heap.size + 2) (.slice a2 xs.length cap2) xs := ho2.mono (show w.heap.size + 2 ≤ w1.heap.size from hz1)
        exact ⟨w2.heap.size, a2, cap2, rfl, Box2.new _ _ _ _, ho3.alloc _, fun b e => by have := (ho2.lt b e).2; omega, by omega, bw2.alloc bw2.size _, (R1.below ht2).alloc _⟩
      · go_meet
        have bw2 := bw1.trans (ht2.mono bw1.size)
        have R3 := ((R1.below ht2).other (p := ⟨w1.heap.size, 0, none⟩) (.int .i64 n) (show w.heap.size + 1 ≠ w1.heap.size by omega)).other (p := ⟨w1.heap.size, 1, none⟩) (.slice a2 xs.length cap2) (show w.heap.size + 1 ≠ w1.heap.size by omega)
        have ho3 : OwnI _ (w.heap.size + 2) (.slice a2 xs.length cap2) xs := ((ho2.setBelow (p := ⟨w1.heap.size, 0, none⟩) (by simp) (.int .i64 n)).setBelow (p := ⟨w1.heap.size, 1, none⟩) (by simp) (.slice a2 xs.length cap2)).mono (B' := w.heap.size + 2) (by simp; omega)
        exact ⟨w1.heap.size, a2, cap2, rfl, (V2.set (.int .i64 n) (.slice a2 xs.length cap2)).1, ho3, fun b e => by have := (ho2.lt b e).1; simp at this; omega, hz1, (bw2.setCell (p := ⟨w1.heap.size, 0, none⟩) bw1.size (.int .i64 n)).setCell (p := ⟨w1.heap.size, 1, none⟩) bw1.size (.slice a2 xs.length cap2), R3⟩
    case rest =>
    obtain ⟨b4, a2, cap2, rfl, V3, ho3, U2, hb4, bw3, R3⟩ := hcut
    have ⟨zV3, cV3, dV3⟩ := V3
    clear A1 R1 cA dA
    go_wp2_with fail
    go_loopw [20] (fun i wr => ∃ k : Nat, k ≤ xs.length ∧ i = .int .i64 k ∧ OwnI wr (w.heap.size + 2) (.slice a2 xs.length cap2) (clAll xs k) ∧ Below w.heap.size w wr ∧ Box2 wr b4 (.int .i64 n) (.slice a2 xs.length cap2) ∧ Var2 wr (w.heap.size + 1) (.int .i64 0) (.slice none 0 0)) (fun i _ => xs.length - (intOf i).toNat)
    case atStart => exact ⟨0, Nat.zero_le _, rfl, ho3, bw3, V3, R3⟩
    case round =>
      obtain ⟨k, hk, rfl, hown, hb, hA, hR⟩ := hrel
      have ⟨zA, cA, dA⟩ := hA
      by_cases hlt : k < xs.length
      · go_wp2_with fail
        obtain ⟨wo, hwo⟩ : ∃ wo : World, wo = wr := ⟨_, rfl⟩
        go_loopw [26] (fun i wi => ∃ j : Nat, j ≤ xs.length ∧ i = .int .i64 j ∧ OwnI wi (w.heap.size + 2) (.slice a2 xs.length cap2) (clRow (clAll xs k) k j) ∧ Below w.heap.size w wi ∧ Box2 wi b4 (.int .i64 n) (.slice a2 xs.length cap2) ∧ Var2 wi (w.heap.size + 1) (.int .i64 0) (.slice none 0 0)) (fun i _ => xs.length - (intOf i).toNat)
        case atStart => exact ⟨0, Nat.zero_le _, rfl, hown, hb, hA, hR⟩
        case round =>
          obtain ⟨j, hj, rfl, hown, hb, hA, hR⟩ := hrel
          have ⟨zI, cI, dI⟩ := hA
          by_cases hjl : j < xs.length
          · obtain ⟨ys, hys⟩ : ∃ ys, ys = clRow (clAll xs k) k j := ⟨_, rfl⟩
            have hyl : ys.length = xs.length := by rw [hys, clRow_len, clAll_len]
            have hysm : Small ys := by rw [hys]; exact clRow_small (clAll_small hsm k hk) (by rw [clAll_len]; exact hlt) j (by rw [clAll_len]; exact hj)
            have hnext : clRow (clAll xs k) k (j + 1) = clStep ys k j := by rw [hys]; rfl
            rw [← hys] at hown
            obtain ⟨g, rfl, hg1, hg2⟩ := hown.head (by omega)
            have hgu := U2 g rfl
            have ⟨ci, fi⟩ := hown.at' hyl.symm (i := j) (by omega)
            have ⟨ck, fk⟩ := hown.at' hyl.symm (i := k) (by omega)
            have ⟨s0, s1⟩ := hysm j (by omega)
            have ⟨t0, t1⟩ := hysm k (by omega)
            have s2 : nth ys j ≤ 9223372036854775807 := by omega
            have hor := or_i (a := nth ys j) (b := nth ys k) s0 (by omega) t0 (by omega)
            have hput := hown.put hyl.symm j (bits .or .i64 (nth ys j) (nth ys k))
            rw [hor] at hput
            have HY := Lib.hid hyl
            have HN := Lib.hid hnext
            have HO := Lib.hid hor
            have HP := Lib.hid hput
            have j0 : (0 : Int) ≤ (j : Int) := by omega
            have j1 : (j : Int) < (xs.length : Int) := by omega
            have k0 : (0 : Int) ≤ (k : Int) := by omega
            have k1 : (k : Int) < (xs.length : Int) := by omega
            clear hys hyl hysm hnext hor hput
            cases hin : hasB (nth ys j) k
            · go_wp2_with fail
              refine (orHas_any _ _ _ s0 s2 k0).mono ?_
              rintro e w' ⟨rfl, rfl⟩
              go_wp2_with fail
              go_roundw
              case rel => exact ⟨j + 1, by omega, by go_num, by rw [HN.out, clStep, hin]; exact hown, hb, hA, hR⟩
              case measure => simp [intOf]; omega
            · go_wp2_with fail
              refine (orHas_any _ _ _ s0 s2 k0).mono ?_
              rintro e w' ⟨rfl, rfl⟩
              go_wp2_with fail
              go_region
              all_goals
                go_wp2_with fail
                go_roundw
                case rel =>
                  refine ⟨j + 1, by omega, by go_num, ?_, ?_, ?_, ?_⟩
                  · rw [HN.out, clStep, hin, if_pos rfl, ← HO.out]
                    have := HP.out.1
                    rw [← HO.out] at this
                    exact this
                  · exact (hb.drew).setCell (p := ⟨g, j, none⟩) (show w.heap.size ≤ g by omega) _
                  · exact hA.set (p := ⟨g, j, none⟩) _ (show b4 ≠ g by omega)
                  · exact hR.other (p := ⟨g, j, none⟩) _ (show w.heap.size + 1 ≠ g by omega)
                case measure => simp [intOf]; omega
          · obtain rfl : j = xs.length := by omega
            go_wp2_with fail
            go_roundw
            case rel => exact ⟨k + 1, by omega, by go_num, by show OwnI wr _ _ (clRow (clAll xs k) k xs.length); exact hown, hb, hA, hR⟩
            case measure => simp [intOf]; omega
      · obtain rfl : k = xs.length := by omega
        have ⟨⟨zR, cR, dR⟩, fR, gR⟩ := hR
        go_wp2_with fail
        have R3 := hR.set (.int .i64 n) (.slice a2 xs.length cap2)
        refine bodyPost_ret (v := .tuple #[.agg #[.int .i64 n, .slice a2 xs.length cap2], .bool true]) (by have ⟨⟨_, q1, q2⟩, _, _⟩ := R3; simp [results, Try.results184, go_sem, q1, q2]) rfl ?_
        refine ⟨a2, cap2, ?_, ?_, ?_⟩
        · rw [H1.out, H2.out, clAll_len]
        · rw [H2.out, clAll_len]
          exact ((hown.setBelow (p := ⟨w.heap.size + 1, 0, none⟩) (show w.heap.size + 1 < w.heap.size + 2 by omega) _).setBelow (p := ⟨w.heap.size + 1, 1, none⟩) (show w.heap.size + 1 < w.heap.size + 2 by omega) _).mono (by omega)
        · exact (hb.setCell (p := ⟨w.heap.size + 1, 0, none⟩) (show w.heap.size ≤ w.heap.size + 1 by omega) _).setCell (p := ⟨w.heap.size + 1, 1, none⟩) (show w.heap.size ≤ w.heap.size + 1 by omega) _

/-- the marks k, k + 1, .. -/
def marks (k : Int) (n : Nat) : List Int := (List.range n).map (fun (j : Nat) => k + (j : Int))
theorem marks_len (k : Int) (n : Nat) : (marks k n).length = n := by simp [marks]
theorem marks_nth {k : Int} {n j : Nat} (h : j < n) : nth (marks k n) j = k + j := by
  simp [nth, marks, h]
theorem mark_step (k : Int) (xs : List Int) (j : Nat) (h : j < xs.length) :
    ((marks k j ++ xs.drop j).map (Value.int .i64)).set j (.int .i64 (k + j)) = (marks k (j+1) ++ xs.drop (j+1)).map (Value.int .i64) := by
  apply List.ext_getElem?
  intro i
  rw [List.getElem?_set]
  by_cases hj : j = i
  · subst hj
    rw [if_pos rfl, if_pos (by simp [marks_len]; omega), List.getElem?_map, List.getElem?_append_left (by rw [marks_len]; omega)]
    simp [marks]
  · simp only [hj, if_false, List.getElem?_map, List.getElem?_append, marks_len, List.getElem?_drop]
    by_cases h1 : i < j
    · have h2 : i < j + 1 := by omega
      simp [h1, h2, marks]
    · have h2 : ¬ i < j + 1 := by omega
      have h3 : j + (i - j) = j + 1 + (i - (j + 1)) := by omega
      simp [h1, h2, h3]
theorem own_ne {v u : Value} (h : ∀ c, v.ownBlock = some c → u.ownBlock ≠ some c) : v.ownBlock = none ∨ v.ownBlock ≠ u.ownBlock := by
  cases hv : v.ownBlock with
  | none => exact .inl rfl
  | some c => exact .inr (fun e => h c hv e.symm)

/-- quiet operations in one world leave it as it is -/
theorem still_of_quiet {P : Program} {o : Oper} {a : Act} {w : World} {K : Act → Prop} (h : o.quiet P a (fun w' => w' = w) K) : o.still P a w K := by
  obtain ⟨v, h1, h2⟩ := h
  have h3 := h1 w rfl
  unfold Oper.quietAt at h3
  unfold Oper.still
  generalize (execOp a.eval o).run P w = r at h3
  cases r with
  | ok n w' =>
    cases n <;> simp only [Oper.quietUpon] at h3 <;> simp only [Oper.stillUpon]
    case value u => exact ⟨h3.1, by rw [h3.2]; exact h2⟩
    case skip => exact ⟨h3.1, by rw [← h3.2]; exact h2⟩
    case enter f args => exact ⟨h3.1, v, h3.2, h2⟩
  | halt x w' => simp only [Oper.quietUpon] at h3
theorem wpStill_of_quiet {P : Program} {ops : Array Oper} {w : World} {Q : Act → Prop} : ∀ (l : List Oper) (a : Act), wpQuiet P ops (fun w' => w' = w) Q l a → wpStill P ops w Q l a
  | [], a, h => h
  | o :: rest, a, h => by
    unfold wpQuiet at h
    unfold wpStill
    split
    · rename_i hw
      rw [if_pos hw] at h
      exact Oper.still_mono (fun a' h' => wpStill_of_quiet rest a' h') (still_of_quiet h)
    · rename_i hw
      rw [if_neg hw] at h
      exact wpStill_of_quiet rest _ h
/-- a region that draws its order: all operations but the last ones are quiet -/
theorem wp_region_quiet_tail {P : Program} {id : Nat} {Q : Exit → Act → World → Prop} {a : Act} {w : World} {l : List Oper} (n : Nat) (hm : P.follows .mixedOrders = true) (hB : Region.lexTailB .any l.toArray n = true)
    (h : wpQuiet P l.toArray (fun w' => w' = w.drew) (fun a' => wpList P l.toArray Q (l.drop n) a' w.drew) (l.take n) a) : (Code.region id l.toArray true).wp P Q a w :=
  wp_region_still_tail n hm hB (wpStill_of_quiet _ _ h)

/-- two lists, each in a block of its own -/
def Apart (v u : Value) : Prop := ∀ c, v.ownBlock = some c → u.ownBlock ≠ some c
theorem apart_nil (u : Value) : Apart (.slice none 0 0) u := fun c e => by simp [Value.ownBlock] at e
theorem Apart.left {v v' u : Value} {w : World} {B : Nat} {xs : List Int} (h : Apart v u) (hu : OwnI w B u xs) (hv : v'.ownBlock = v.ownBlock ∨ ∃ g, v'.ownBlock = some g ∧ w.heap.size ≤ g) : Apart v' u := fun c e e2 => by
  rcases hv with e3 | ⟨g, e3, hg⟩
  · exact h c (by rw [← e3]; exact e) e2
  · rw [e3] at e; simp only [Option.some.injEq] at e; have := (hu.lt c e2).2; omega
theorem Apart.right {v u u' : Value} {w : World} {B : Nat} {xs : List Int} (h : Apart v u) (hv : OwnI w B v xs) (hu : u'.ownBlock = u.ownBlock ∨ ∃ g, u'.ownBlock = some g ∧ w.heap.size ≤ g) : Apart v u' := fun c e e2 => by
  rcases hu with e3 | ⟨g, e3, hg⟩
  · exact h c e (by rw [← e3]; exact e2)
  · rw [e3] at e2; simp only [Option.some.injEq] at e2; have := (hv.lt c e).2; omega
theorem Apart.own {v u : Value} (h : Apart v u) : v.ownBlock = none ∨ v.ownBlock ≠ u.ownBlock := own_ne (fun c e e2 => h c e e2)
theorem Apart.own' {v u : Value} (h : Apart v u) : u.ownBlock = none ∨ u.ownBlock ≠ v.ownBlock := own_ne (fun c e e2 => h c e2 e)
theorem zeros_small (n : Nat) : ∀ j, j < n → 0 ≤ nth (List.replicate n (0 : Int)) j ∧ nth (List.replicate n (0 : Int)) j < 1024 := fun j hj => by
  have e : nth (List.replicate n (0 : Int)) j = 0 := by simp [nth, hj]
  rw [e]; omega
/-- what holds while the pairs are drawn -/
structure OrdInv (w : World) (Z G V B p c n : Nat) (lv rv : Value) (ls rs : List Int) : Prop where
  ex : ∃ xs : List Int, xs.length = n ∧ OwnI w G (.slice (some ⟨G, 0, none⟩) n n) xs ∧ (∀ k, k < n → 0 ≤ nth xs k ∧ nth xs k < 1024) ∧ Var2 w V (.int .i64 (n : Int)) (.slice (some ⟨G, 0, none⟩) n n) ∧ Var2 w Z (.int .i64 0) (.slice none 0 0) ∧ OwnI w B lv ls ∧ OwnI w B rv rs ∧ Cur w p c
theorem OrdInv.mono {w : World} {Z G V B p c c' n : Nat} {lv rv : Value} {ls rs : List Int} (h : OrdInv w Z G V B p c n lv rv ls rs) (hc : c ≤ c') : OrdInv w Z G V B p c' n lv rv ls rs := by
  obtain ⟨xs, h1, h2, h3, h4, h5, h6, h7, h8⟩ := h.ex
  exact ⟨xs, h1, h2, h3, h4, h5, h6, h7, h8.mono hc⟩
theorem OrdInv.drawn {w w' : World} {Z G V B p c n c' : Nat} {lv rv : Value} {ls rs : List Int} (h : OrdInv w Z G V B p c n lv rv ls rs) (hd : Drawn w w' p) (hc : Cur w' p c') (hZ : p < Z) (hG : p < G) (hV : p < V) (hB : p < B) : OrdInv w' Z G V B p c' n lv rv ls rs := by
  obtain ⟨xs, h1, h2, h3, h4, h5, h6, h7, h8⟩ := h.ex
  exact ⟨xs, h1, h2.drawn hd hG, h3, h4.drawn hd (by omega), h5.drawn hd (by omega), h6.drawn hd hB, h7.drawn hd hB, hc⟩
theorem OrdInv.drawnN {w : World} {Z G V B p c n c' k : Nat} {lv rv : Value} {ls rs : List Int} (h : OrdInv w Z G V B p c n lv rv ls rs) (hc : c ≤ c') : OrdInv (w.drewN k) Z G V B p c' n lv rv ls rs := by
  obtain ⟨xs, h1, h2, h3, h4, h5, h6, h7, h8⟩ := h.ex
  have b := Joins.below_draws w.heap.size w k
  exact ⟨xs, h1, h2.below b (Nat.le_refl _), h3, h4.below b, h5.below b, h6.below b (Nat.le_refl _), h7.below b (Nat.le_refl _), (h8.below b).mono hc⟩
theorem OrdInv.below {w w' : World} {Z G V B p c n : Nat} {lv rv : Value} {ls rs : List Int} (h : OrdInv w Z G V B p c n lv rv ls rs) (b : Below w.heap.size w w') : OrdInv w' Z G V B p c n lv rv ls rs := by
  obtain ⟨xs, h1, h2, h3, h4, h5, h6, h7, h8⟩ := h.ex
  exact ⟨xs, h1, h2.below b (Nat.le_refl _), h3, h4.below b, h5.below b, h6.below b (Nat.le_refl _), h7.below b (Nat.le_refl _), h8.below b⟩
theorem OrdInv.put {w W' : World} {Z G V B p c c' n a : Nat} {lv rv : Value} {ls rs xs : List Int} (hl : xs.length = n) (ho : OwnI w G (.slice (some ⟨G, 0, none⟩) n n) xs) (hx : ∀ k, k < n → 0 ≤ nth xs k ∧ nth xs k < 1024) (hV : Var2 w V (.int .i64 (n : Int)) (.slice (some ⟨G, 0, none⟩) n n)) (hZ : Var2 w Z (.int .i64 0) (.slice none 0 0)) (hA : OwnI w B lv ls) (hB : OwnI w B rv rs) (hc : Cur w p c)
    (hb : Below w.heap.size w W') (ha : a < n) (y : Nat) (hy : y < 1024) (hc' : c ≤ c') (h1 : G < B) (h2 : V ≠ G) (h3 : Z ≠ G) (h4 : p < G) : OrdInv (W'.setCell ⟨G, a, none⟩ (.int .i64 (y : Int))) Z G V B p c' n lv rv ls rs := by
  have hput := ((ho.below hb (Nat.le_refl _)).put hl.symm a (y : Int)).1
  refine ⟨xs.set a (y : Int), by simp; exact hl, hput, fun j hj => ?_, (hV.below hb).other (p := ⟨G, a, none⟩) _ h2, (hZ.below hb).other (p := ⟨G, a, none⟩) _ h3, (hA.below hb (Nat.le_refl _)).setBelow (p := ⟨G, a, none⟩) h1 _, (hB.below hb (Nat.le_refl _)).setBelow (p := ⟨G, a, none⟩) h1 _, ((hc.below hb).set ⟨G, a, none⟩ _ h4).mono hc'⟩
  by_cases e : j = a
  · rw [e, nth_set (by omega), if_pos rfl]; omega
  · rw [nth_set (by omega), if_neg (fun h => e h.symm)]; exact hx j hj
theorem cloN_len (n : Int) (xs : List Int) : cloN n xs = ((cloL n xs).length : Int) := by
  unfold cloN cloL
  cases h : relB n xs
  · simp
  · simp only [if_true, clAll_len]
    exact (relB_p h).len.symm
theorem cloL_le (n : Int) (xs : List Int) : (cloL n xs).length ≤ xs.length := by
  unfold cloL
  split
  · rw [clAll_len]; exact Nat.le_refl _
  · simp
theorem cloL_small {n : Int} {xs : List Int} (h : ∀ k, k < xs.length → 0 ≤ nth xs k ∧ nth xs k < 1024) : ∀ k, k < (cloL n xs).length → 0 ≤ nth (cloL n xs) k ∧ nth (cloL n xs) k < 1024 := by
  unfold cloL
  split
  · exact clAll_small h _ (Nat.le_refl _)
  · intro k hk; simp at hk
set_option maxRecDepth 100000 in
set_option maxHeartbeats 2000000 in
theorem order_any (p L m : Nat) (w : World) (h : Cur w p L) (hL : L ≤ 700000000) (hm : m ≤ 10) :
    Calls Try.prog 133 #[.pointer (some ⟨p, 0, none⟩), .int .i64 (m : Int)] w fun e w' => ∃ a cap xs, e = .returned (.agg #[.int .i64 (xs.length : Int), .slice a xs.length cap]) ∧ OwnI w' w.heap.size (.slice a xs.length cap) xs ∧ xs.length ≤ m ∧ (∀ k, k < xs.length → 0 ≤ nth xs k ∧ nth xs k < 1024) ∧ Cur w' p (L + 400) ∧ Drawn w w' p := by
  obtain ⟨i0, hi, hz0, hz1, hz2⟩ := info_parts infoInt
  have hpw := h.lt
  have ha : Below w.heap.size w (w.alloc (.cells #[.int .i64 0, .slice none 0 0] 26)) := (by repeat (first | exact Below.refl _ _ | assumption | refine Below.alloc ?_ (by first | exact Nat.le_refl _ | (simp only [World.size_alloc, World.size_setCell, World.size_drew]; omega) | omega) _ | refine Below.setCell ?_ (by first | exact Nat.le_refl _ | (simp only [World.size_alloc, World.size_setCell, World.size_drew]; omega) | omega) _ | refine Below.drew ?_))
  have H := Lib.hid (h.below ha)
  have HR := Lib.hid (Var2.new w (.int .i64 0) (.slice none 0 0) 26)
  clear h
  go_enter Try.func133, Try.ntmps133
  go_wp2_with fail
  refine (pick_any p L ((m : Int) + 1) _ H.out (by omega) (by omega)).mono ?_
  rintro e w1 ⟨r, rfl, hr0, hr1, hc1, hd1⟩
  obtain ⟨n, rfl⟩ := Int.eq_ofNat_of_zero_le hr0
  have hn : n ≤ m := by omega
  have hs1 : w.heap.size + 1 ≤ w1.heap.size := by have := hd1.size; simpa using this
  have HC1 := Lib.hid hc1
  have HD1 := Lib.hid hd1.of_alloc
  have HR1 := Lib.hid (HR.out.drawn hd1 (by omega))
  clear hc1 hd1 hr0 hr1
  go_wp2_with (at_make; refine wpList_make_full _ rfl (.tmp 21) (.tmp 21) 24 rfl w1.heap.size 3 i0 (.int .i64 0) 1 Try.underlying24 hi hz0 hz1 .i64 .i64 _ _ n rfl rfl rfl rfl (by rw [hz2]; omega) (by unfold maxLen; omega) (Nat.le_refl _) ?_; intro w2 hown hgrow; revert hgrow)
  intro hgrow
  have b2 : Below w1.heap.size w1 w2 := (Below.refl _ _).grown hgrow (Nat.le_refl _) (fun k h => by cases h)
  have ho2 : OwnI w2 w1.heap.size (.slice (some ⟨w1.heap.size, 0, none⟩) n n) (List.replicate n 0) := by
    unfold OwnI
    simpa [Value.cells, toList_madeCells_one] using hown
  have hs2 : w1.heap.size < w2.heap.size := (ho2.lt w1.heap.size rfl).2
  have HB2 := Lib.hid b2
  have HO2 := Lib.hid ho2
  clear hown hgrow b2 ho2
  go_wp2_with fail
  have ba2 : Below w2.heap.size w2 (w2.alloc (.cells #[.int .i64 (n : Int), .slice (some ⟨w1.heap.size, 0, none⟩) n n] 26)) := (by repeat (first | exact Below.refl _ _ | assumption | refine Below.alloc ?_ (by first | exact Nat.le_refl _ | (simp only [World.size_alloc, World.size_setCell, World.size_drew]; omega) | omega) _ | refine Below.setCell ?_ (by first | exact Nat.le_refl _ | (simp only [World.size_alloc, World.size_setCell, World.size_drew]; omega) | omega) _ | refine Below.drew ?_))
  have b12 := HB2.out.trans (ba2.mono HB2.out.size)
  refine (pick_any p (L + 2) 3 _ (HC1.out.below b12) (by omega) (by omega)).mono ?_
  rintro e w3 ⟨kd, rfl, hkd0, hkd1, hc3, hd3⟩
  have hs3 : w2.heap.size + 1 ≤ w3.heap.size := by have := hd3.size; simpa using this
  have HC3 := Lib.hid hc3
  have HD3 := Lib.hid ((HD1.out.below b12).trans hd3)
  have HO3 := Lib.hid ((HO2.out.alloc (.cells #[.int .i64 (n : Int), .slice (some ⟨w1.heap.size, 0, none⟩) n n] 26)).drawn hd3 (by omega))
  have HV3 := Lib.hid ((Var2.new w2 (.int .i64 (n : Int)) (.slice (some ⟨w1.heap.size, 0, none⟩) n n) 26).drawn hd3 (by omega))
  have HR3 := Lib.hid ((HR1.out.below b12).drawn hd3 (by omega))
  clear hc3 hd3 ba2 b12 hkd1 HC1 HD1 HR1 HB2 HO2 H HR
  go_wp2_with fail
  go_loopw [8, 9, 10] (fun v u i wr => ∃ (k : Nat) (ls rs : List Int), k ≤ n ∧ i = .int .i64 k ∧ ls.length = k ∧ rs.length = k ∧ OwnI wr w3.heap.size v ls ∧ OwnI wr w3.heap.size u rs ∧ Apart v u ∧ Cur wr p (L + 4 + 4 * k) ∧ Drawn w3 wr p) (fun _ _ i _ => n - (intOf i).toNat)
  case atStart => exact ⟨0, [], [], Nat.zero_le _, rfl, rfl, rfl, OwnI.nil _ _, OwnI.nil _ _, apart_nil _, HC3.out, Drawn.refl _ _⟩
  case round =>
    obtain ⟨k, ls, rs, hk, rfl, hl1, hl2, hol, hor, hap, hc, hd⟩ := hrel
    obtain ⟨al, cl, rfl⟩ := hol.form
    obtain ⟨ar, cr, rfl⟩ := hor.form
    have hds := hd.size
    by_cases hlt : k < n
    · have k1 : (k : Int) < (n : Int) := by omega
      have HOL := Lib.hid hol
      have HOR := Lib.hid hor
      have HAP := Lib.hid hap
      have HC := Lib.hid hc
      have HD := Lib.hid hd
      have HL1 := Lib.hid hl1
      have HL2 := Lib.hid hl2
      clear hol hor hap hc hd hl1 hl2
      go_wp2_with fail
      refine (pick_any p (L + 4 + 4 * k) 8 _ HC.out (by omega) (by omega)).mono ?_
      rintro e w4 ⟨x, rfl, hx0, hx1, hc4, hd4⟩
      have hs4 := hd4.size
      have HC4 := Lib.hid hc4
      have HD4 := Lib.hid (HD.out.trans hd4)
      have HOL4 := Lib.hid (HOL.out.drawn hd4 (by omega))
      have HOR4 := Lib.hid (HOR.out.drawn hd4 (by omega))
      have hll : ls.length ≤ 1048576 := by have := HL1.out; omega
      have hb4 : w3.heap.size ≤ w4.heap.size := by omega
      clear hc4 hd4
      go_wp2_with (at_builtin; refine push_at (v := .slice al ls.length cl) (z := x) rfl _ _ rfl rfl HOL4.out rfl hll hb4 ?_; intro v5 w5 o5 hg5 hat5; revert hat5)
      intro hat5
      obtain ⟨a5, c5, ev5⟩ := o5.form
      subst ev5
      have hlo := HOL4.out.lt
      have hs5 := hg5.size
      have hap5 : Apart (.slice a5 (ls ++ [x]).length c5) (.slice ar rs.length cr) := HAP.out.left HOR4.out (hat5.imp id (fun h => ⟨_, h, by omega⟩))
      have hor5 := HOR4.out.kept hg5 HAP.out.own'
      have hc5 := HC4.out.kept hg5 (fun g e => by have := (hlo g e).1; omega)
      have hd5 := HD4.out.grown hg5 (fun c e => (hlo c e).1)
      have hll5 : (ls ++ [x]).length = k + 1 := by simp; exact HL1.out
      have HOL5 := Lib.hid o5
      have HOR5 := Lib.hid hor5
      have HAP5 := Lib.hid hap5
      have HC5 := Lib.hid hc5
      have HD5 := Lib.hid hd5
      have HLL5 := Lib.hid hll5
      have hrl : rs.length ≤ 1048576 := by have := HL2.out; omega
      have hb5 : w3.heap.size ≤ w5.heap.size := by omega
      obtain ⟨q, hq⟩ : ∃ q, q = ls ++ [x] := ⟨_, rfl⟩
      rw [← hq] at HOL5 HAP5 HLL5 ⊢
      clear o5 hg5 hat5 hlo hap5 hor5 hc5 hd5 hll5 hq
      cases hkd1 : (kd == 1)
      · go_wp2_with (at_builtin; refine push_at (v := .slice ar rs.length cr) (z := x + 2) rfl _ _ rfl rfl HOR5.out rfl hrl hb5 ?_; intro v6 w6 o6 hg6 hat6; revert hat6)
        intro hat6
        obtain ⟨a6, c6, ev6⟩ := o6.form
        subst ev6
        have hlo6 := HOR5.out.lt
        have hs6 := hg6.size
        have hap6 : Apart (.slice a5 q.length c5) (.slice a6 (rs ++ [x + 2]).length c6) := HAP5.out.right HOL5.out (hat6.imp id (fun h => ⟨_, h, by omega⟩))
        have hol6 := HOL5.out.kept hg6 HAP5.out.own
        have hc6 := HC5.out.kept hg6 (fun g e => by have := (hlo6 g e).1; omega)
        have hd6 := HD5.out.grown hg6 (fun c e => (hlo6 c e).1)
        have hll6 : (rs ++ [x + 2]).length = k + 1 := by simp; exact HL2.out
        have H6 := Lib.hid (And.intro hol6 (And.intro o6 (And.intro hap6 (And.intro hc6 hd6))))
        have HLL6 := Lib.hid hll6
        clear o6 hg6 hat6 hlo6 hap6 hol6 hc6 hd6 hll6
        go_wp2_with fail
        go_roundw
        case rel => exact ⟨k + 1, q, rs ++ [x + 2], by omega, by go_num, HLL5.out, HLL6.out, H6.out.1, H6.out.2.1, H6.out.2.2.1, H6.out.2.2.2.1.mono (by omega), H6.out.2.2.2.2⟩
        case measure => simp [intOf]; omega
      · go_wp2_with fail
        refine (pick_any p (L + 4 + 4 * k + 2) 4 _ HC5.out (by omega) (by omega)).mono ?_
        rintro e w8 ⟨y, rfl, hy0, hy1, hc8, hd8⟩
        have hs8 := hd8.size
        have HC8 := Lib.hid hc8
        have HOL8 := Lib.hid (HOL5.out.drawn hd8 (by omega))
        have HOR8 := Lib.hid (HOR5.out.drawn hd8 (by omega))
        have HD8 := Lib.hid (HD5.out.trans hd8)
        have hb8 : w3.heap.size ≤ w8.heap.size := by omega
        clear hc8 hd8
        go_wp2_with (at_builtin; refine push_at (v := .slice ar rs.length cr) (z := x + y) rfl _ _ rfl rfl HOR8.out rfl hrl hb8 ?_; intro v6 w6 o6 hg6 hat6; revert hat6)
        intro hat6
        obtain ⟨a6, c6, ev6⟩ := o6.form
        subst ev6
        have hlo6 := HOR8.out.lt
        have hs6 := hg6.size
        have hap6 : Apart (.slice a5 q.length c5) (.slice a6 (rs ++ [x + y]).length c6) := HAP5.out.right HOL8.out (hat6.imp id (fun h => ⟨_, h, by omega⟩))
        have hol6 := HOL8.out.kept hg6 HAP5.out.own
        have hc6 := HC8.out.kept hg6 (fun g e => by have := (hlo6 g e).1; omega)
        have hd6 := HD8.out.grown hg6 (fun c e => (hlo6 c e).1)
        have hll6 : (rs ++ [x + y]).length = k + 1 := by simp; exact HL2.out
        have H6 := Lib.hid (And.intro hol6 (And.intro o6 (And.intro hap6 (And.intro hc6 hd6))))
        have HLL6 := Lib.hid hll6
        clear o6 hg6 hat6 hlo6 hap6 hol6 hc6 hd6 hll6
        go_wp2_with fail
        go_roundw
        case rel => exact ⟨k + 1, q, rs ++ [x + y], by omega, by go_num, HLL5.out, HLL6.out, H6.out.1, H6.out.2.1, H6.out.2.2.1, H6.out.2.2.2.1.mono (by omega), H6.out.2.2.2.2⟩
        case measure => simp [intOf]; omega
    · obtain rfl : k = n := by omega
      have hsw : w3.heap.size ≤ wr.heap.size := hds
      have HL1 := Lib.hid hl1
      have HL2 := Lib.hid hl2
      have HIV : Hid (OrdInv wr w.heap.size w1.heap.size w2.heap.size w3.heap.size p (L + 4 + 4 * k) k (.slice al ls.length cl) (.slice ar rs.length cr) ls rs ∧ Drawn w wr p) :=
        ⟨⟨List.replicate k 0, by simp, HO3.out.drawn hd (by omega), zeros_small k, HV3.out.drawn hd (by omega), HR3.out.drawn hd (by omega), hol, hor, hc⟩, HD3.out.trans hd⟩
      obtain ⟨W4, hW4⟩ : ∃ x : World, x = wr := ⟨_, rfl⟩
      subst hW4
      clear hol hor hap hc hd hl1 hl2
      go_wp2_with fail
      go_loopw [12] (fun i wr => ∃ (a : Nat), a ≤ k ∧ i = .int .i64 a ∧ OrdInv wr w.heap.size w1.heap.size w2.heap.size w3.heap.size p (L + 4 + 4 * k + a * (2 * k)) k (.slice al ls.length cl) (.slice ar rs.length cr) ls rs ∧ Drawn w wr p) (fun i _ => k - (intOf i).toNat)
      case atStart => exact ⟨0, Nat.zero_le _, rfl, by simpa using HIV.out.1, HIV.out.2⟩
      case round =>
        obtain ⟨a, hak, rfl, hI, hd⟩ := hrel
        by_cases hal : a < k
        · have a1 : (a : Int) < (k : Int) := by omega
          have HI := Lib.hid hI
          have HD := Lib.hid hd
          obtain ⟨W5, hW5⟩ : ∃ x : World, x = wr := ⟨_, rfl⟩
          subst hW5
          clear hI hd
          go_wp2_with fail
          go_loopw [13] (fun j wr => ∃ (b : Nat), b ≤ k ∧ j = .int .i64 b ∧ OrdInv wr w.heap.size w1.heap.size w2.heap.size w3.heap.size p (L + 4 + 4 * k + a * (2 * k) + 2 * b) k (.slice al ls.length cl) (.slice ar rs.length cr) ls rs ∧ Drawn w wr p) (fun j _ => k - (intOf j).toNat)
          case atStart => exact ⟨0, Nat.zero_le _, rfl, HI.out, HD.out⟩
          case round =>
            obtain ⟨b, hbk, rfl, hI, hd⟩ := hrel
            by_cases hbl : b < k
            · have b1 : (b : Int) < (k : Int) := by omega
              have hkk : a * (2 * k) ≤ 200 := Nat.le_trans (Nat.mul_le_mul (show a ≤ 10 by omega) (show 2 * k ≤ 20 by omega)) (by omega)
              by_cases hk0 : kd = 0
              · subst hk0
                by_cases hab : a < b
                · have hab' : (a : Int) < (b : Int) := by omega
                  have HI2 := Lib.hid hI
                  have HD2 := Lib.hid hd
                  clear hI hd
                  have ⟨xs9, hl9, ho9, hx9, hV9, hZ9, hA9, hB9, hc9⟩ := HI2.out.ex
                  have HC9 := Lib.hid hc9
                  have HZ9 := Lib.hid hZ9
                  have c9 := hZ9.1.2.1
                  clear hl9 ho9 hx9 hV9 hZ9 hA9 hB9 hc9
                  go_wp2_with fail
                  refine wp_region_quiet_tail 23 (by kernel_rfl) (by kernel_rfl) ?_
                  simp only [List.take_succ_cons, List.take_zero, List.drop_succ_cons, List.drop_zero]
                  repeat (go_big_quiet_step (fail))
                  refine wpQuiet_nil ?_
                  have HI5 := Lib.hid (HI2.out.drawnN (k := 1) (c' := L + 4 + 4 * k + a * (2 * k) + 2 * b) (Nat.le_refl _))
                  have HD5 := Lib.hid (HD2.out.below (Joins.below_draws wr.heap.size wr 1))
                  have HC5 := Lib.hid (HC9.out.below (Joins.below_draws wr.heap.size wr 1))
                  go_wp2_with fail
                  refine (one_any p (L + 4 + 4 * k + a * (2 * k) + 2 * b) 3 _ HC5.out (by omega) (by omega)).mono ?_
                  rintro e w5 ⟨he, hc5, hd5⟩
                  have HI6 := Lib.hid (HI5.out.drawn hd5 hc5 (by omega) (by omega) (by omega) (by omega))
                  have HD6 := Lib.hid (HD5.out.trans hd5)
                  have hs5 := hd5.size
                  clear hc5 hd5 HI5 HD5 HC5
                  rcases he with rfl | rfl
                  · go_wp2_with fail
                    obtain ⟨xs, hl, ho, hx, hV, hZ, hA, hB, hc⟩ := HI6.out.ex
                    have ⟨ci, fi⟩ := ho.at' hl.symm (i := a) (by omega)
                    have hxa := hx a hal
                    obtain ⟨q, hq⟩ : ∃ q : Nat, nth xs a = (q : Int) := ⟨(nth xs a).toNat, by omega⟩
                    rw [hq] at ci hxa
                    have hq10 : q < 2 ^ 10 := by omega
                    have hor := or_bit (b := q) (k := b) (by omega) (by omega)
                    have hqb : q ||| 2 ^ b < 1024 := by
                      have := or_lt (a := q) (b := 2 ^ b) hq10 (two_lt (show b < 10 by omega)); omega
                    have ⟨⟨zV, cV, dV⟩, fV, gV⟩ := hV
                    have HN : Hid (∀ W', Below w5.heap.size w5 W' → OrdInv (W'.setCell ⟨w1.heap.size, a, none⟩ (.int .i64 ((q ||| 2 ^ b : Nat) : Int))) w.heap.size w1.heap.size w2.heap.size w3.heap.size p (L + 4 + 4 * k + a * (2 * k) + 2 * (b + 1)) k (.slice al ls.length cl) (.slice ar rs.length cr) ls rs ∧ Drawn w (W'.setCell ⟨w1.heap.size, a, none⟩ (.int .i64 ((q ||| 2 ^ b : Nat) : Int))) p) := fun W' hb =>
                      ⟨OrdInv.put hl ho hx hV hZ hA hB hc hb hal _ hqb (by omega) (by omega) (by omega) (by omega) (by omega), (HD6.out.below hb).set ⟨w1.heap.size, a, none⟩ _ (show w.heap.size ≤ w1.heap.size by omega)⟩
                    have HOR := Lib.hid hor
                    clear hl ho hx hV hZ hA hB hc hxa hq hor
                    go_wp2_with fail
                    go_region
                    all_goals
                      go_wp2_with fail
                      rw [HOR.out]
                      go_roundw
                      case rel => exact ⟨b + 1, by omega, by go_num, (HN.out w5 (Below.refl _ _)).1.below (Below.refl _ _).drew, (HN.out w5 (Below.refl _ _)).2.below (Below.refl _ _).drew⟩
                      case measure => simp [intOf]; omega
                  · go_wp2_with fail
                    go_roundw
                    case rel => exact ⟨b + 1, by omega, by go_num, HI6.out.mono (by omega), HD6.out⟩
                    case measure => simp [intOf]; omega
                · have hab' : ¬ ((a : Int) < (b : Int)) := by omega
                  have HI2 := Lib.hid hI
                  have HD2 := Lib.hid hd
                  clear hI hd
                  go_wp2_with fail
                  go_quiet (fail)
                  go_wp2_with fail
                  have HI3 := Lib.hid (HI2.out.drawnN (k := nq) (c' := L + 4 + 4 * k + a * (2 * k) + 2 * (b + 1)) (by omega))
                  have HD3 := Lib.hid (HD2.out.below (Joins.below_draws wr.heap.size wr nq))
                  go_roundw
                  case rel => exact ⟨b + 1, by omega, by go_num, HI3.out, HD3.out⟩
                  case measure => simp [intOf]; omega
              · have hk1 : (0 : Int) < kd := by omega
                obtain ⟨xs0, hl0, ho0, hx0, hV0, hZ0, hA0, hB0, hc0⟩ := hI.ex
                obtain ⟨g1, o1, e1, hg1, hcr⟩ := hB0.rd.cell a (by have := HL2.out; omega)
                obtain ⟨g2, o2, e2, hg2, hcl⟩ := hA0.rd.cell b (by have := HL1.out; omega)
                have E1 := Lib.hid e1
                have E2 := Lib.hid e2
                subst e1 e2
                have a9 : (a : Int) < (rs.length : Int) := by have := HL2.out; omega
                have b9 : (b : Int) < (ls.length : Int) := by have := HL1.out; omega
                have HI2 := Lib.hid hI
                have HD2 := Lib.hid hd
                clear hI hd ho0 hx0 hV0 hZ0 hA0 hB0 hc0 hl0
                cases hlt9 : decide (nth rs a < nth ls b)
                · go_wp2_with fail
                  go_quiet (fail)
                  go_wp2_with fail
                  have HI3 := Lib.hid (HI2.out.drawnN (k := nq) (c' := L + 4 + 4 * k + a * (2 * k) + 2 * (b + 1)) (by omega))
                  have HD3 := Lib.hid (HD2.out.below (Joins.below_draws wr.heap.size wr nq))
                  go_roundw
                  case rel => exact ⟨b + 1, by omega, by go_num, HI3.out, HD3.out⟩
                  case measure => simp [intOf]; omega
                · go_wp2_with fail
                  go_quiet (fail)
                  obtain ⟨xs, hl, ho, hx, hV, hZ, hA, hB, hc⟩ := HI2.out.ex
                  have ⟨ci, fi⟩ := ho.at' hl.symm (i := a) (by omega)
                  have hxa := hx a hal
                  obtain ⟨q, hq⟩ : ∃ q : Nat, nth xs a = (q : Int) := ⟨(nth xs a).toNat, by omega⟩
                  rw [hq] at ci hxa
                  have hq10 : q < 2 ^ 10 := by omega
                  have hor := or_bit (b := q) (k := b) (by omega) (by omega)
                  have hqb : q ||| 2 ^ b < 1024 := by
                    have := or_lt (a := q) (b := 2 ^ b) hq10 (two_lt (show b < 10 by omega)); omega
                  have ⟨⟨zV, cV, dV⟩, fV, gV⟩ := hV
                  have HN : Hid (∀ W', Below wr.heap.size wr W' → OrdInv (W'.setCell ⟨w1.heap.size, a, none⟩ (.int .i64 ((q ||| 2 ^ b : Nat) : Int))) w.heap.size w1.heap.size w2.heap.size w3.heap.size p (L + 4 + 4 * k + a * (2 * k) + 2 * (b + 1)) k (.slice (some ⟨g2, o2, none⟩) ls.length cl) (.slice (some ⟨g1, o1, none⟩) rs.length cr) ls rs ∧ Drawn w (W'.setCell ⟨w1.heap.size, a, none⟩ (.int .i64 ((q ||| 2 ^ b : Nat) : Int))) p) := fun W' hb =>
                    ⟨OrdInv.put hl ho hx hV hZ hA hB hc hb hal _ hqb (by omega) (by omega) (by omega) (by omega) (by omega), (HD2.out.below hb).set ⟨w1.heap.size, a, none⟩ _ (show w.heap.size ≤ w1.heap.size by omega)⟩
                  have HOR := Lib.hid hor
                  clear hl ho hx hV hZ hA hB hc hxa hq hor
                  go_wp2_with fail
                  go_region
                  all_goals
                    go_wp2_with fail
                    rw [HOR.out]
                    go_roundw
                    case rel => exact ⟨b + 1, by omega, by go_num, (HN.out _ (by first | exact Joins.below_draws _ _ _ | exact (Joins.below_draws _ _ _).trans ((Joins.below_draws _ _ _).mono (by simp)))).1, (HN.out _ (by first | exact Joins.below_draws _ _ _ | exact (Joins.below_draws _ _ _).trans ((Joins.below_draws _ _ _).mono (by simp)))).2⟩
                    case measure => simp [intOf]; omega
            · obtain rfl : b = k := by omega
              have HI2 := Lib.hid hI
              have HD2 := Lib.hid hd
              clear hI hd
              go_wp2_with fail
              go_roundw
              case rel => exact ⟨a + 1, by omega, by go_num, HI2.out.mono (by rw [Nat.add_mul]; omega), HD2.out⟩
              case measure => simp [intOf]; omega
        · obtain rfl : a = k := by omega
          have hkk : a * (2 * a) ≤ 200 := Nat.le_trans (Nat.mul_le_mul (show a ≤ 10 by omega) (show 2 * a ≤ 20 by omega)) (by omega)
          obtain ⟨xs, hl, ho, hx, hV, hZ, hA, hB, hc⟩ := hI.ex
          have HL := Lib.hid hl
          have HO := Lib.hid ho
          have HX := Lib.hid hx
          have HZ := Lib.hid hZ
          have HC := Lib.hid hc
          have HD := Lib.hid hd
          have ⟨⟨zV, cV, dV⟩, fV, gV⟩ := hV
          have ⟨⟨zZ, cZ, dZ⟩, fZ, gZ⟩ := hZ
          obtain ⟨W6, hW6⟩ : ∃ x : World, x = wr := ⟨_, rfl⟩
          subst hW6
          clear hI hd hl ho hx hV hZ hA hB hc
          by_cases hk0 : kd = 0
          · subst hk0
            go_wp2_with fail
            have hnb : -9223372036854775808 ≤ (a : Int) ∧ (a : Int) ≤ 9223372036854775807 := by omega
            have HCL := Lib.hid (sCloseRelation_any (a : Int) (some ⟨w1.heap.size, 0, none⟩) xs a W6 hnb HO.out.rd)
            unfold GotO at HCL
            have HCN : Hid (cloN (a : Int) xs = ((cloL (a : Int) xs).length : Int)) := cloN_len (a : Int) xs
            have HCS : Hid (∀ k, k < (cloL (a : Int) xs).length → 0 ≤ nth (cloL (a : Int) xs) k ∧ nth (cloL (a : Int) xs) k < 1024) := cloL_small (fun k hk => HX.out k (by rw [HL.out] at hk; exact hk))
            have HCM : Hid ((cloL (a : Int) xs).length ≤ m) := Nat.le_trans (cloL_le (a : Int) xs) (by rw [HL.out]; exact hn)
            rw [HL.out, HCN.out] at HCL
            obtain ⟨ys, hys⟩ : ∃ ys, ys = cloL (a : Int) xs := ⟨_, rfl⟩
            rw [← hys] at HCL HCS HCM
            generalize relB (a : Int) xs = rb at HCL
            clear hys HCN
            refine HCL.out.mono ?_
            rintro e w7 ⟨a7, c7, rfl, ho7, hb7⟩
            have hs7 := hb7.size
            have hZ7 := HZ.out.below hb7
            have hC7 := HC.out.below hb7
            have hD7 := HD.out.below hb7
            have ⟨⟨zZ7, cZ7, dZ7⟩, fZ7, gZ7⟩ := hZ7
            have HO7 := Lib.hid ho7
            have HZ7 := Lib.hid hZ7
            have HC7 := Lib.hid hC7
            have HD7 := Lib.hid hD7
            clear hb7 ho7 hZ7 hC7 hD7 HCL
            go_wp2_with fail
            have R3 := (HZ7.out.set (.int .i64 (ys.length : Int)) (.slice a7 ys.length c7)).alloc (.cells #[.int .i64 (ys.length : Int), .slice a7 ys.length c7] 26)
            refine bodyPost_ret (v := .agg #[.int .i64 (ys.length : Int), .slice a7 ys.length c7]) (by have ⟨⟨_, q1, q2⟩, _, _⟩ := R3; simp [results, Try.results133, go_sem, q1, q2]) rfl ?_
            have hO9 := (((HO7.out.setBelow (p := ⟨w.heap.size, 0, none⟩) (show w.heap.size < W6.heap.size by omega) (.int .i64 (ys.length : Int))).setBelow (p := ⟨w.heap.size, 1, none⟩) (show w.heap.size < W6.heap.size by omega) (.slice a7 ys.length c7)).alloc (.cells #[.int .i64 (ys.length : Int), .slice a7 ys.length c7] 26)).mono (show w.heap.size ≤ W6.heap.size by omega)
            have hC9 := ((((HC7.out.set ⟨w.heap.size, 0, none⟩ (.int .i64 (ys.length : Int)) (show p < w.heap.size by omega)).set ⟨w.heap.size, 1, none⟩ (.slice a7 ys.length c7) (show p < w.heap.size by omega)).alloc (.cells #[.int .i64 (ys.length : Int), .slice a7 ys.length c7] 26)).mono (show L + 4 + 4 * a + a * (2 * a) ≤ L + 400 by omega))
            have hD9 := ((HD7.out.set ⟨w.heap.size, 0, none⟩ (.int .i64 (ys.length : Int)) (Nat.le_refl _)).set ⟨w.heap.size, 1, none⟩ (.slice a7 ys.length c7) (Nat.le_refl _)).alloc (.cells #[.int .i64 (ys.length : Int), .slice a7 ys.length c7] 26)
            exact ⟨a7, c7, ys, rfl, hO9, HCM.out, HCS.out, hC9, hD9⟩
          · have hk1 : (0 : Int) < kd := by omega
            go_wp2_with fail
            have R3 := HZ.out.set (.int .i64 (a : Int)) (.slice (some ⟨w1.heap.size, 0, none⟩) a a)
            refine bodyPost_ret (v := .agg #[.int .i64 (a : Int), .slice (some ⟨w1.heap.size, 0, none⟩) a a]) (by have ⟨⟨_, q1, q2⟩, _, _⟩ := R3; simp [results, Try.results133, go_sem, q1, q2]) rfl ?_
            have hO9 := ((HO.out.setBelow (p := ⟨w.heap.size, 0, none⟩) (show w.heap.size < w1.heap.size by omega) (.int .i64 (a : Int))).setBelow (p := ⟨w.heap.size, 1, none⟩) (show w.heap.size < w1.heap.size by omega) (.slice (some ⟨w1.heap.size, 0, none⟩) a a)).mono (show w.heap.size ≤ w1.heap.size by omega)
            have hC9 := ((HC.out.set ⟨w.heap.size, 0, none⟩ (.int .i64 (a : Int)) (show p < w.heap.size by omega)).set ⟨w.heap.size, 1, none⟩ (.slice (some ⟨w1.heap.size, 0, none⟩) a a) (show p < w.heap.size by omega)).mono (show L + 4 + 4 * a + a * (2 * a) ≤ L + 400 by omega)
            have hD9 := (HD.out.set ⟨w.heap.size, 0, none⟩ (.int .i64 (a : Int)) (Nat.le_refl _)).set ⟨w.heap.size, 1, none⟩ (.slice (some ⟨w1.heap.size, 0, none⟩) a a) (Nat.le_refl _)
            exact ⟨some ⟨w1.heap.size, 0, none⟩, a, xs, by rw [HL.out], by rw [HL.out]; exact hO9, by rw [HL.out]; exact hn, fun k hk => HX.out k (by rw [HL.out] at hk; exact hk), hC9, hD9⟩

/-- four numbers that were written out -/
theorem rd_lit4 (w : World) (x0 x1 x2 x3 : Int) (t : TypeId) : Rd (w.alloc (.cells #[.int .i64 x0, .int .i64 x1, .int .i64 x2, .int .i64 x3] t)) (some ⟨w.heap.size, 0, none⟩) [x0, x1, x2, x3] :=
  ⟨by simp, fun k hk => ⟨w.heap.size, 0, rfl, by simp, by
    have : k = 0 ∨ k = 1 ∨ k = 2 ∨ k = 3 := by simp at hk; omega
    rcases this with rfl | rfl | rfl | rfl <;> simp [nth]⟩⟩
theorem lit4_small {n k : Nat} (hn : n ≤ 10) (hk : k < 4) : -1 ≤ nth [-1, 0, 1, IntKind.i64.wrap (2 ^ n)] k ∧ nth [-1, 0, 1, IntKind.i64.wrap (2 ^ n)] k ≤ 1024 := by
  have h1 : (2 : Int) ^ n ≤ 1024 ∧ 0 ≤ (2 : Int) ^ n := by
    have h := Nat.pow_le_pow_right (show 0 < 2 by omega) hn
    have e : ((2 ^ n : Nat) : Int) = (2 : Int) ^ n := by simp
    rw [← e]
    have h9 : (2 : Nat) ^ 10 = 1024 := by decide
    rw [h9] at h
    generalize 2 ^ n = z at h
    omega
  have h2 : IntKind.i64.wrap (2 ^ n) = 2 ^ n := wrap64_small _ (by omega) (by omega)
  rw [h2]
  have : k = 0 ∨ k = 1 ∨ k = 2 ∨ k = 3 := by omega
  rcases this with rfl | rfl | rfl | rfl <;> simp [nth] <;> omega
/-- an order, or something near one, that was drawn -/
def AnyO (w : World) (p L : Nat) (e : Ending) (w' : World) : Prop :=
  ∃ (n : Int) (a : Option Addr) (cap : Nat) (xs : List Int), e = .returned (.agg #[.int .i64 n, .slice a xs.length cap]) ∧ OwnI w' w.heap.size (.slice a xs.length cap) xs ∧ xs.length ≤ 10 ∧ -1 ≤ n ∧ n ≤ 11 ∧ (∀ k, k < xs.length → -1 ≤ nth xs k ∧ nth xs k ≤ 1024) ∧ Cur w' p L ∧ Drawn w w' p
theorem any_end {w W : World} {p L L' : Nat} {n : Int} {a : Option Addr} {c : Nat} {xs : List Int} (ho : OwnI W (w.heap.size + 1) (.slice a xs.length c) xs) (hl : xs.length ≤ 10) (h0 : -1 ≤ n) (h1 : n ≤ 11) (hx : ∀ k, k < xs.length → -1 ≤ nth xs k ∧ nth xs k ≤ 1024)
    (hc : Cur W p L) (hL : L ≤ L') (hp : p < w.heap.size) (hd : Drawn w W p) :
    AnyO w p L' (.returned (.agg #[.int .i64 n, .slice a xs.length c])) ((W.setCell ⟨w.heap.size, 0, none⟩ (.int .i64 n)).setCell ⟨w.heap.size, 1, none⟩ (.slice a xs.length c)) :=
  ⟨n, a, c, xs, rfl, ((ho.setBelow (p := ⟨w.heap.size, 0, none⟩) (show w.heap.size < w.heap.size + 1 by omega) _).setBelow (p := ⟨w.heap.size, 1, none⟩) (show w.heap.size < w.heap.size + 1 by omega) _).mono (by omega), hl, h0, h1, hx,
    ((hc.set ⟨w.heap.size, 0, none⟩ _ hp).set ⟨w.heap.size, 1, none⟩ _ hp).mono hL, (hd.set ⟨w.heap.size, 0, none⟩ _ (Nat.le_refl _)).set ⟨w.heap.size, 1, none⟩ _ (Nat.le_refl _)⟩
set_option maxRecDepth 100000 in
set_option maxHeartbeats 2000000 in
theorem anyOrder_any (p L m : Nat) (w : World) (h : Cur w p L) (hL : L ≤ 600000000) (hm : m ≤ 10) :
    Calls Try.prog 68 #[.pointer (some ⟨p, 0, none⟩), .int .i64 (m : Int)] w (AnyO w p (L + 1000)) := by
  have hpw := h.lt
  have ha : Below w.heap.size w (w.alloc (.cells #[.int .i64 0, .slice none 0 0] 26)) := (by repeat (first | exact Below.refl _ _ | assumption | refine Below.alloc ?_ (by first | exact Nat.le_refl _ | (simp only [World.size_alloc, World.size_setCell, World.size_drew]; omega) | omega) _ | refine Below.setCell ?_ (by first | exact Nat.le_refl _ | (simp only [World.size_alloc, World.size_setCell, World.size_drew]; omega) | omega) _ | refine Below.drew ?_))
  have H := Lib.hid (h.below ha)
  have HR := Lib.hid (Var2.new w (.int .i64 0) (.slice none 0 0) 26)
  clear h
  unfold AnyO
  go_enter Try.func68, Try.ntmps68
  go_wp2_with fail
  refine (order_any p L m _ H.out (by omega) hm).mono ?_
  rintro e w1 ⟨a1, c1, xs, rfl, ho1, hl1, hx1, hc1, hd1⟩
  have hs1 : w.heap.size + 1 ≤ w1.heap.size := by have := hd1.size; simpa using this
  have ba1 : Below w1.heap.size w1 (w1.alloc (.cells #[.int .i64 (xs.length : Int), .slice a1 xs.length c1] 26)) := (by repeat (first | exact Below.refl _ _ | assumption | refine Below.alloc ?_ (by first | exact Nat.le_refl _ | (simp only [World.size_alloc, World.size_setCell, World.size_drew]; omega) | omega) _ | refine Below.setCell ?_ (by first | exact Nat.le_refl _ | (simp only [World.size_alloc, World.size_setCell, World.size_drew]; omega) | omega) _ | refine Below.drew ?_))
  have hc1' := hc1.below ba1
  have HD1 := Lib.hid (hd1.of_alloc.below ba1)
  have HR1 := Lib.hid ((HR.out.drawn hd1 (by omega)).below ba1)
  have HO1 := Lib.hid ((ho1.mono (B' := w.heap.size + 1) (by simp)).below ba1 (Nat.le_refl _))
  have HB1 := Lib.hid (Var2.new w1 (.int .i64 (xs.length : Int)) (.slice a1 xs.length c1) 26)
  have HX1 := Lib.hid hx1
  have HC1 := Lib.hid hc1'
  have hgne : (Value.slice a1 xs.length c1).ownBlock = none ∨ (Value.slice a1 xs.length c1).ownBlock ≠ some w1.heap.size := by
    cases e : (Value.slice a1 xs.length c1).ownBlock with
    | none => exact .inl rfl
    | some g => exact .inr (by have := (ho1.lt g e).2; simp; omega)
  clear hc1 hc1' hd1 ho1 hx1 ba1 H HR
  go_wp2_with fail
  refine (pick_any p (L + 400) 14 _ HC1.out (by omega) (by omega)).mono ?_
  rintro e w2 ⟨r, rfl, hr0, hr1, hc2, hd2⟩
  have hs2 : w1.heap.size + 1 ≤ w2.heap.size := by have := hd2.size; simpa using this
  have HC2 := Lib.hid hc2
  have HD2 := Lib.hid (HD1.out.trans hd2)
  have HR2 := Lib.hid (HR1.out.drawn hd2 (by omega))
  have HO2 := Lib.hid (HO1.out.drawn hd2 (by omega))
  have HB2 := Lib.hid (HB1.out.drawn hd2 (by omega))
  have ⟨⟨zR, cR, dR⟩, fR, gR⟩ := HR2.out
  have ⟨⟨zB, cB, dB⟩, fB, gB⟩ := HB2.out
  clear hc2 hd2 HC1 HD1 HR1 HO1 HB1
  cases e0 : (r == 0)
  · cases e1 : (r == 1)
    · cases e2 : (r == 2)
      · cases e3 : (r == 3)
        · go_wp2_with fail
          have R3 := HR2.out.set (.int .i64 (xs.length : Int)) (.slice a1 xs.length c1)
          refine bodyPost_ret (v := .agg #[.int .i64 (xs.length : Int), .slice a1 xs.length c1]) (by have ⟨⟨_, q1, q2⟩, _, _⟩ := R3; simp [results, Try.results68, go_sem, q1, q2]) rfl ?_
          exact any_end HO2.out (by omega) (by omega) (by omega) (fun k hk => by have := HX1.out k hk; omega) HC2.out (by omega) hpw HD2.out
        · go_wp2_with fail
          refine (order_any p (L + 402) 10 _ HC2.out (by omega) (by omega)).mono ?_
          rintro e w3 ⟨a3, c3, ys, rfl, ho3, hl3, hx3, hc3, hd3⟩
          have hs3 := hd3.size
          have hR3 := HR2.out.drawn hd3 (by omega)
          have hD3 := HD2.out.trans hd3
          have ⟨⟨zR3, cR3, dR3⟩, fR3, gR3⟩ := hR3
          have HO3 := Lib.hid (ho3.mono (B' := w.heap.size + 1) (by omega))
          have HX3 := Lib.hid hx3
          have HR3 := Lib.hid hR3
          have HC3 := Lib.hid hc3
          have HD3 := Lib.hid hD3
          clear ho3 hx3 hR3 hD3 hc3 hd3
          go_wp2_with fail
          have R3 := HR3.out.set (.int .i64 (ys.length : Int)) (.slice a3 ys.length c3)
          refine bodyPost_ret (v := .agg #[.int .i64 (ys.length : Int), .slice a3 ys.length c3]) (by have ⟨⟨_, q1, q2⟩, _, _⟩ := R3; simp [results, Try.results68, go_sem, q1, q2]) rfl ?_
          exact any_end HO3.out (by omega) (by omega) (by omega) (fun k hk => by have := HX3.out k hk; omega) HC3.out (by omega) hpw HD3.out
      · by_cases hl0 : 0 < xs.length
        · have hl0' : (0 : Int) < (xs.length : Int) := by omega
          obtain ⟨g, rfl⟩ : ∃ g, a1 = some ⟨g, 0, none⟩ := by
            rcases HO2.out.2 with ⟨e, h⟩ | ⟨g, c, cur, e, _⟩
            · omega
            · simp only [Value.slice.injEq] at e
              exact ⟨g, e.1⟩
          have hg1 := HO2.out.lt g rfl
          have hg2 : g ≠ w1.heap.size := by
            rcases hgne with h | h
            · cases h
            · exact fun e => h (by rw [← e]; rfl)
          go_wp2_with fail
          go_region_held3 (fun w' => w'.cell? ⟨w1.heap.size, 0, none⟩ = some (.int .i64 (xs.length : Int)) ∧ w'.cell? ⟨w1.heap.size, 1, none⟩ = some (.slice (some ⟨g, 0, none⟩) xs.length c1))
            (first | exact ⟨QB.1.2.1, QB.1.2.2⟩ | exact ⟨QA.1.2.1, QA.1.2.2⟩ | go_keep)
            (first
              | (have _g := HP1; go_at_call 135; refine (among_any p (L + 404) (some ⟨wa.heap.size, 0, none⟩) [-1, 0, 1, IntKind.i64.wrap (2 ^ xs.length)] 4 4 _ (HCA.out.alloc _) (by omega) (rd_lit4 wa (-1) 0 1 _ _) rfl (by omega) (by omega) (fun b off e => (by simp only [Option.some.injEq, Addr.mk.injEq] at e; omega))).mono ?_; rintro e wb ⟨kk, hkk, rfl, hcb, hdb⟩; have QB := (QA.alloc (.cells #[.int .i64 (-1), .int .i64 0, .int .i64 1, .int .i64 (IntKind.i64.wrap (2 ^ xs.length))] 3)).drawn hdb (by omega); have QRB := Lib.hid ((QRA.out.alloc (.cells #[.int .i64 (-1), .int .i64 0, .int .i64 1, .int .i64 (IntKind.i64.wrap (2 ^ xs.length))] 3)).drawn hdb (by omega)); have HCB := Lib.hid hcb; have HDB := Lib.hid ((HDA.out.alloc (.cells #[.int .i64 (-1), .int .i64 0, .int .i64 1, .int .i64 (IntKind.i64.wrap (2 ^ xs.length))] 3)).trans hdb); have hob := (HOA.out.alloc (.cells #[.int .i64 (-1), .int .i64 0, .int .i64 1, .int .i64 (IntKind.i64.wrap (2 ^ xs.length))] 3)).drawn hdb (by omega); have HOB := Lib.hid hob; have ⟨cib, fib⟩ := hob.at' rfl (i := qn) hqn; clear hcb hdb hob)
              | (have _g := HP2; go_at_call 135; refine (among_any p (L + 404) (some ⟨w2.heap.size, 0, none⟩) [-1, 0, 1, IntKind.i64.wrap (2 ^ xs.length)] 4 4 _ HCA.out (by omega) HP2.out rfl (by omega) (by omega) (fun b off e => (by simp only [Option.some.injEq, Addr.mk.injEq] at e; omega))).mono ?_; rintro e wb ⟨kk, hkk, rfl, hcb, hdb⟩; have QB := QA.drawn hdb (by omega); have QRB := Lib.hid (QRA.out.drawn hdb (by omega)); have HCB := Lib.hid hcb; have HDB := Lib.hid (HDA.out.trans hdb); have hob := HOA.out.drawn hdb (by omega); have HOB := Lib.hid hob; have ⟨cib, fib⟩ := hob.at' rfl (i := qn) hqn; clear hcb hdb hob)
              | (have _g := HP2; go_at_call 135; refine (among_any p (L + 404) (some ⟨w2.heap.size, 0, none⟩) [-1, 0, 1, IntKind.i64.wrap (2 ^ xs.length)] 4 4 _ (HCA.out.below (Joins.below_draws _ _ _)) (by omega) (HP2.out.below (Joins.below_draws _ _ _)) rfl (by omega) (by omega) (fun b off e => (by simp only [Option.some.injEq, Addr.mk.injEq] at e; omega))).mono ?_; rintro e wb ⟨kk, hkk, rfl, hcb, hdb⟩; have QB := (QA.below (Joins.below_draws _ _ _)).drawn hdb (by omega); have QRB := Lib.hid ((QRA.out.below (Joins.below_draws _ _ _)).drawn hdb (by omega)); have HCB := Lib.hid hcb; have HDB := Lib.hid ((HDA.out.below (Joins.below_draws _ _ _)).trans hdb); have hob := (HOA.out.below (Joins.below_draws _ _ _) (Nat.le_refl _)).drawn hdb (by omega); have HOB := Lib.hid hob; have ⟨cib, fib⟩ := hob.at' rfl (i := qn) hqn; clear hcb hdb hob)
              | (go_at_call 75; refine (pick_any p (L + 402) (xs.length : Int) _ (HC2.out.below (Joins.below_draws _ _ _)) (by omega) (by omega)).mono ?_; rintro e wa ⟨q, rfl, hq0, hq1, hca, hda⟩; obtain ⟨qn, rfl⟩ := Int.eq_ofNat_of_zero_le hq0; have hqn : qn < xs.length := (by omega); have hqi : (qn : Int) < (xs.length : Int) := (by omega); have hsa : w2.heap.size ≤ wa.heap.size := (by have := hda.size; simp at this; omega); have HDA := Lib.hid ((HD2.out.below (Joins.below_draws _ _ _)).trans hda); have HOA := Lib.hid ((HO2.out.below (Joins.below_draws _ _ _) (Nat.le_refl _)).drawn hda (by omega)); have HCA := Lib.hid hca; have QA := (HB2.out.below (Joins.below_draws _ _ _)).drawn hda (by omega); have QRA := Lib.hid ((HR2.out.below (Joins.below_draws _ _ _)).drawn hda (by omega)); have HP1 := Lib.hid hsa; clear hca hda hq0 hq1)
              | (go_at_call 75; refine (pick_any p (L + 402) (xs.length : Int) _ (HC2.out.below ((Below.refl w2.heap.size w2).alloc (Nat.le_refl _) (.cells #[.int .i64 (-1), .int .i64 0, .int .i64 1, .int .i64 (IntKind.i64.wrap (2 ^ xs.length))] 3))) (by omega) (by omega)).mono ?_; rintro e wa ⟨q, rfl, hq0, hq1, hca, hda⟩; obtain ⟨qn, rfl⟩ := Int.eq_ofNat_of_zero_le hq0; have hqn : qn < xs.length := (by omega); have hqi : (qn : Int) < (xs.length : Int) := (by omega); have hsa : w2.heap.size ≤ wa.heap.size := (by have := hda.size; simp at this; omega); have HDA := Lib.hid ((HD2.out.below ((Below.refl w2.heap.size w2).alloc (Nat.le_refl _) (.cells #[.int .i64 (-1), .int .i64 0, .int .i64 1, .int .i64 (IntKind.i64.wrap (2 ^ xs.length))] 3))).trans hda); have HOA := Lib.hid ((HO2.out.below ((Below.refl w2.heap.size w2).alloc (Nat.le_refl _) (.cells #[.int .i64 (-1), .int .i64 0, .int .i64 1, .int .i64 (IntKind.i64.wrap (2 ^ xs.length))] 3)) (Nat.le_refl _)).drawn hda (by omega)); have HCA := Lib.hid hca; have QA := (HB2.out.below ((Below.refl w2.heap.size w2).alloc (Nat.le_refl _) (.cells #[.int .i64 (-1), .int .i64 0, .int .i64 1, .int .i64 (IntKind.i64.wrap (2 ^ xs.length))] 3))).drawn hda (by omega); have QRA := Lib.hid ((HR2.out.below ((Below.refl w2.heap.size w2).alloc (Nat.le_refl _) (.cells #[.int .i64 (-1), .int .i64 0, .int .i64 1, .int .i64 (IntKind.i64.wrap (2 ^ xs.length))] 3))).drawn hda (by omega)); have HP2 := Lib.hid (((rd_lit4 w2 (-1) 0 1 (IntKind.i64.wrap (2 ^ xs.length)) 3)).drawn hda (fun b off e => (by simp only [Option.some.injEq, Addr.mk.injEq] at e; omega))); clear hca hda hq0 hq1)
              | (go_at_call 75; refine (pick_any p (L + 402) (xs.length : Int) _ (HC2.out.below (((Below.refl w2.heap.size w2).alloc (Nat.le_refl _) (.cells #[.int .i64 (-1), .int .i64 0, .int .i64 1, .int .i64 (IntKind.i64.wrap (2 ^ xs.length))] 3)).trans (Joins.below_draws _ _ _))) (by omega) (by omega)).mono ?_; rintro e wa ⟨q, rfl, hq0, hq1, hca, hda⟩; obtain ⟨qn, rfl⟩ := Int.eq_ofNat_of_zero_le hq0; have hqn : qn < xs.length := (by omega); have hqi : (qn : Int) < (xs.length : Int) := (by omega); have hsa : w2.heap.size ≤ wa.heap.size := (by have := hda.size; simp at this; omega); have HDA := Lib.hid ((HD2.out.below (((Below.refl w2.heap.size w2).alloc (Nat.le_refl _) (.cells #[.int .i64 (-1), .int .i64 0, .int .i64 1, .int .i64 (IntKind.i64.wrap (2 ^ xs.length))] 3)).trans (Joins.below_draws _ _ _))).trans hda); have HOA := Lib.hid ((HO2.out.below (((Below.refl w2.heap.size w2).alloc (Nat.le_refl _) (.cells #[.int .i64 (-1), .int .i64 0, .int .i64 1, .int .i64 (IntKind.i64.wrap (2 ^ xs.length))] 3)).trans (Joins.below_draws _ _ _)) (Nat.le_refl _)).drawn hda (by omega)); have HCA := Lib.hid hca; have QA := (HB2.out.below (((Below.refl w2.heap.size w2).alloc (Nat.le_refl _) (.cells #[.int .i64 (-1), .int .i64 0, .int .i64 1, .int .i64 (IntKind.i64.wrap (2 ^ xs.length))] 3)).trans (Joins.below_draws _ _ _))).drawn hda (by omega); have QRA := Lib.hid ((HR2.out.below (((Below.refl w2.heap.size w2).alloc (Nat.le_refl _) (.cells #[.int .i64 (-1), .int .i64 0, .int .i64 1, .int .i64 (IntKind.i64.wrap (2 ^ xs.length))] 3)).trans (Joins.below_draws _ _ _))).drawn hda (by omega)); have HP2 := Lib.hid (((rd_lit4 w2 (-1) 0 1 (IntKind.i64.wrap (2 ^ xs.length)) 3).below (Joins.below_draws _ _ _)).drawn hda (fun b off e => (by simp only [Option.some.injEq, Addr.mk.injEq] at e; omega))); clear hca hda hq0 hq1))
          all_goals
            have hz0 : -1 ≤ nth [-1, 0, 1, IntKind.i64.wrap (2 ^ xs.length)] kk ∧ nth [-1, 0, 1, IntKind.i64.wrap (2 ^ xs.length)] kk ≤ 1024 := lit4_small (show xs.length ≤ 10 by omega) hkk
            have hsb := HDB.out.size
            generalize nth [-1, 0, 1, IntKind.i64.wrap (2 ^ xs.length)] kk = z at hz0
            have hput := HOB.out.put rfl qn z
            have HP := Lib.hid hput
            have hQ : Hid (Var2 (wb.setCell ⟨g, qn, none⟩ (.int .i64 z)) w.heap.size (.int .i64 0) (.slice none 0 0)) := QRB.out.other (p := ⟨g, qn, none⟩) _ (show w.heap.size ≠ g by omega)
            have hQb := QB.other (p := ⟨g, qn, none⟩) (.int .i64 z) (show w1.heap.size ≠ g from fun e => hg2 e.symm)
            have ⟨⟨zR3, cR3, dR3⟩, fR3, gR3⟩ := hQ.out
            have ⟨⟨zB3, cB3, dB3⟩, fB3, gB3⟩ := hQb
            have HL9 : Hid ((xs.set qn z).length = xs.length) := by simp [Hid]
            have HX9 : Hid (∀ k, k < (xs.set qn z).length → -1 ≤ nth (xs.set qn z) k ∧ nth (xs.set qn z) k ≤ 1024) := fun j hj => by
              rw [nth_set hqn]
              split
              · exact hz0
              · have := HX1.out j (by simpa using hj); omega
            clear hput
            go_wp2_with fail
            have R3 := hQ.out.set (.int .i64 (xs.length : Int)) (.slice (some ⟨g, 0, none⟩) xs.length c1)
            refine bodyPost_ret (v := .agg #[.int .i64 (xs.length : Int), .slice (some ⟨g, 0, none⟩) xs.length c1]) (by have ⟨⟨_, q1, q2⟩, _, _⟩ := R3; simp [results, Try.results68, go_sem, q1, q2]) rfl ?_
            have h9 := any_end (p := p) (L := L + 406) (L' := L + 1000) (n := (xs.length : Int)) (W := wb.setCell ⟨g, qn, none⟩ (.int .i64 z)) (a := some ⟨g, 0, none⟩) (c := c1) (xs := xs.set qn z) (w := w) (by rw [HL9.out]; exact HP.out.1) (by rw [HL9.out]; omega) (by omega) (by omega) HX9.out (HCB.out.set ⟨g, qn, none⟩ _ (show p < g by omega)) (by omega) hpw (HDB.out.set ⟨g, qn, none⟩ _ (show w.heap.size ≤ g by omega))
            rw [HL9.out] at h9
            exact h9
        · have hl0' : ¬ ((0 : Int) < (xs.length : Int)) := by omega
          go_wp2_with fail
          have R3 := HR2.out.set (.int .i64 (xs.length : Int)) (.slice a1 xs.length c1)
          refine bodyPost_ret (v := .agg #[.int .i64 (xs.length : Int), .slice a1 xs.length c1]) (by have ⟨⟨_, q1, q2⟩, _, _⟩ := R3; simp [results, Try.results68, go_sem, q1, q2]) rfl ?_
          exact any_end HO2.out (by omega) (by omega) (by omega) (fun k hk => by have := HX1.out k hk; omega) HC2.out (by omega) hpw HD2.out
    · have ba2 : Below w2.heap.size w2 (w2.alloc (.cells #[.int .i64 (-1), .int .i64 0, .int .i64 10, .int .i64 11] 3)) := (by repeat (first | exact Below.refl _ _ | assumption | refine Below.alloc ?_ (by first | exact Nat.le_refl _ | (simp only [World.size_alloc, World.size_setCell, World.size_drew]; omega) | omega) _ | refine Below.setCell ?_ (by first | exact Nat.le_refl _ | (simp only [World.size_alloc, World.size_setCell, World.size_drew]; omega) | omega) _ | refine Below.drew ?_))
      go_wp2_with fail
      refine (among_any p (L + 402) (some ⟨w2.heap.size, 0, none⟩) [-1, 0, 10, 11] 4 4 _ (HC2.out.below ba2) (by omega) (rd_lit4 w2 (-1) 0 10 11 _) rfl (by omega) (by omega) (fun b off e => by simp only [Option.some.injEq, Addr.mk.injEq] at e; omega)).mono ?_
      rintro e w3 ⟨k, hk, rfl, hc3, hd3⟩
      have hn0 : -1 ≤ nth [-1, 0, 10, 11] k ∧ nth [-1, 0, 10, 11] k ≤ 11 := by
        have : k = 0 ∨ k = 1 ∨ k = 2 ∨ k = 3 := by omega
        rcases this with rfl | rfl | rfl | rfl <;> simp [nth]
      generalize nth [-1, 0, 10, 11] k = z at hn0
      have hs3 : w2.heap.size + 1 ≤ w3.heap.size := by have := hd3.size; simpa using this
      have hR3 := (HR2.out.below ba2).drawn hd3 (by omega)
      have hB3 := (HB2.out.below ba2).drawn hd3 (by omega)
      have hO3 := (HO2.out.below ba2 (Nat.le_refl _)).drawn hd3 (by omega)
      have hD3 := (HD2.out.below ba2).trans hd3
      have ⟨⟨zR3, cR3, dR3⟩, fR3, gR3⟩ := hR3
      have ⟨⟨zB3, cB3, dB3⟩, fB3, gB3⟩ := hB3
      have HO3 := Lib.hid hO3
      have HR3 := Lib.hid hR3
      have HB3 := Lib.hid hB3
      have HC3 := Lib.hid hc3
      have HD3 := Lib.hid hD3
      clear hO3 hR3 hB3 hD3 hc3 hd3
      have HRb := Lib.hid (HR3.out.other (p := ⟨w1.heap.size, 0, none⟩) (.int .i64 z) (show w.heap.size ≠ w1.heap.size by omega))
      have HOb := Lib.hid (HO3.out.kept (grown_set w3 ⟨w1.heap.size, 0, none⟩ (.int .i64 z)) hgne)
      go_wp2_with fail
      have R3 := HRb.out.set (.int .i64 z) (.slice a1 xs.length c1)
      refine bodyPost_ret (v := .agg #[.int .i64 z, .slice a1 xs.length c1]) (by have ⟨⟨_, q1, q2⟩, _, _⟩ := R3; simp [results, Try.results68, go_sem, q1, q2]) rfl ?_
      exact any_end HOb.out (by omega) (by omega) (by omega) (fun k hk => by have := HX1.out k hk; omega) (HC3.out.set ⟨w1.heap.size, 0, none⟩ _ (show p < w1.heap.size by omega)) (by omega) hpw (HD3.out.set ⟨w1.heap.size, 0, none⟩ _ (show w.heap.size ≤ w1.heap.size by omega))
  · go_wp2_with fail
    refine (relation_any p (L + 402) m _ HC2.out (by omega) (by omega)).mono ?_
    rintro e w3 ⟨a3, c3, ys, rfl, ho3, hl3, hx3, hc3, hd3⟩
    have hs3 := hd3.size
    have hR3 := HR2.out.drawn hd3 (by omega)
    have hD3 := HD2.out.trans hd3
    have ⟨⟨zR3, cR3, dR3⟩, fR3, gR3⟩ := hR3
    have HO3 := Lib.hid (ho3.mono (B' := w.heap.size + 1) (by omega))
    have HX3 := Lib.hid hx3
    have HR3 := Lib.hid hR3
    have HC3 := Lib.hid hc3
    have HD3 := Lib.hid hD3
    clear ho3 hx3 hR3 hD3 hc3 hd3
    go_wp2_with fail
    have R3 := HR3.out.set (.int .i64 (ys.length : Int)) (.slice a3 ys.length c3)
    refine bodyPost_ret (v := .agg #[.int .i64 (ys.length : Int), .slice a3 ys.length c3]) (by have ⟨⟨_, q1, q2⟩, _, _⟩ := R3; simp [results, Try.results68, go_sem, q1, q2]) rfl ?_
    exact any_end HO3.out (by omega) (by omega) (by omega) (fun k hk => by have := HX3.out k hk; omega) HC3.out (by omega) hpw HD3.out

theorem cur_new {w : World} {a : Option Addr} {n cap : Nat} {t : TypeId} (hR : RdB w a n) (hn : n ≤ 1048576) : Cur (w.alloc (.cells #[.slice a n cap, .int .i64 0, .int .u64 0] t)) w.heap.size 0 :=
  ⟨a, n, cap, 0, 0, Var3.new w _ _ _ t, by omega, by omega, hn, hR.below ((Below.refl _ _).alloc (Nat.le_refl _) _), fun h0 b off e => by
    obtain ⟨b', off', e', hl, _⟩ := hR.cell 0 h0
    rw [e] at e'
    simp only [Option.some.injEq, Addr.mk.injEq] at e'
    omega⟩

/-- an order that a law draws -/
def DrawnO (w : World) (e : Ending) (w' : World) : Prop :=
  ∃ (n : Int) (a : Option Addr) (cap : Nat) (xs : List Int), e = .returned (.agg #[.int .i64 n, .slice a xs.length cap]) ∧ OwnI w' w.heap.size (.slice a xs.length cap) xs ∧ xs.length ≤ 10 ∧ -1 ≤ n ∧ n ≤ 11 ∧ (∀ k, k < xs.length → -1 ≤ nth xs k ∧ nth xs k ≤ 1024) ∧ Below w.heap.size w w'

/-- three numbers that were written out -/
theorem rd_lit3 (w : World) (x0 x1 x2 : Int) (t : TypeId) : Rd (w.alloc (.cells #[.int .i64 x0, .int .i64 x1, .int .i64 x2] t)) (some ⟨w.heap.size, 0, none⟩) [x0, x1, x2] :=
  ⟨by simp, fun k hk => ⟨w.heap.size, 0, rfl, by simp, by
    have : k = 0 ∨ k = 1 ∨ k = 2 := by simp at hk; omega
    rcases this with rfl | rfl | rfl <;> simp [nth]⟩⟩
theorem pow_small {q : Nat} (h : q ≤ 10) : IntKind.i64.wrap (2 ^ q) = 2 ^ q ∧ (2 : Int) ^ q ≤ 1024 ∧ 1 ≤ (2 : Int) ^ q := by
  have h1 := pow10 h
  exact ⟨wrap64_small _ (by omega) (by omega), h1.2, h1.1⟩

/-- two relations that a law draws -/
def DrawnOO (w : World) (e : Ending) (w' : World) : Prop :=
  ∃ (n : Int) (a : Option Addr) (cap : Nat) (xs : List Int) (m : Int) (b : Option Addr) (cap2 : Nat) (ys : List Int), e = .returned (.tuple #[.agg #[.int .i64 n, .slice a xs.length cap], .agg #[.int .i64 m, .slice b ys.length cap2]]) ∧ OwnI w' w.heap.size (.slice a xs.length cap) xs ∧ xs.length ≤ 10 ∧ (-1 ≤ n ∧ n ≤ 11) ∧ OwnI w' w.heap.size (.slice b ys.length cap2) ys ∧ ys.length ≤ 12 ∧ (-1 ≤ m ∧ m ≤ 12) ∧ Below w.heap.size w w'
structure FndK (w : World) (n : Int) (a : Option Addr) (c : Nat) (xs : List Int) (bo : Nat) (W : World) (L : Nat) : Prop where
  o : Var2 W w.heap.size (.int .i64 0) (.slice none 0 0)
  z : Var2 W (w.heap.size + 1) (.int .i64 0) (.slice none 0 0)
  bx : Var2 W bo (.int .i64 n) (.slice a xs.length c)
  r : OwnI W (w.heap.size + 3) (.slice a xs.length c) xs
  cu : Cur W (w.heap.size + 2) L
  b : Below w.heap.size w W
  s : w.heap.size + 3 ≤ bo ∧ bo < W.heap.size
theorem FndK.drawn {w W W' : World} {n : Int} {a : Option Addr} {c bo L L' : Nat} {xs : List Int} (h : FndK w n a c xs bo W L) (hd : Drawn W W' (w.heap.size + 2)) (hc : Cur W' (w.heap.size + 2) L') : FndK w n a c xs bo W' L' :=
  ⟨h.o.drawn hd (by omega), h.z.drawn hd (by omega), h.bx.drawn hd (by have := h.s; omega), h.r.drawn hd (by omega), hc, h.b.trans (hd.bel (by omega) h.b.size), h.s.1, Nat.lt_of_lt_of_le h.s.2 hd.size⟩
theorem FndK.below {w W W' : World} {n : Int} {a : Option Addr} {c bo L : Nat} {xs : List Int} (h : FndK w n a c xs bo W L) (hb : Below W.heap.size W W') : FndK w n a c xs bo W' L :=
  ⟨h.o.below hb, h.z.below hb, h.bx.below hb, h.r.below hb (Nat.le_refl _), h.cu.below hb, h.b.trans (hb.mono h.b.size), h.s.1, Nat.lt_of_lt_of_le h.s.2 hb.size⟩
theorem oo_end {w W : World} {a b : Option Addr} {c c2 L bo : Nat} {xs ys : List Int} {n m : Int} (h : FndK w n a c xs bo W L) (hl : xs.length ≤ 10) (ho : OwnI W (w.heap.size + 3) (.slice b ys.length c2) ys) (hy : ys.length ≤ 12) (h0 : -1 ≤ n ∧ n ≤ 11) (h1 : -1 ≤ m ∧ m ≤ 12) :
    (Var2 ((((W.setCell ⟨w.heap.size, 0, none⟩ (.int .i64 n)).setCell ⟨w.heap.size, 1, none⟩ (.slice a xs.length c)).setCell ⟨w.heap.size + 1, 0, none⟩ (.int .i64 m)).setCell ⟨w.heap.size + 1, 1, none⟩ (.slice b ys.length c2)) w.heap.size (.int .i64 n) (.slice a xs.length c) ∧ Var2 ((((W.setCell ⟨w.heap.size, 0, none⟩ (.int .i64 n)).setCell ⟨w.heap.size, 1, none⟩ (.slice a xs.length c)).setCell ⟨w.heap.size + 1, 0, none⟩ (.int .i64 m)).setCell ⟨w.heap.size + 1, 1, none⟩ (.slice b ys.length c2)) (w.heap.size + 1) (.int .i64 m) (.slice b ys.length c2)) ∧
    DrawnOO w (.returned (.tuple #[.agg #[.int .i64 n, .slice a xs.length c], .agg #[.int .i64 m, .slice b ys.length c2]])) ((((W.setCell ⟨w.heap.size, 0, none⟩ (.int .i64 n)).setCell ⟨w.heap.size, 1, none⟩ (.slice a xs.length c)).setCell ⟨w.heap.size + 1, 0, none⟩ (.int .i64 m)).setCell ⟨w.heap.size + 1, 1, none⟩ (.slice b ys.length c2)) := by
  have s1 := (h.o.set (.int .i64 n) (.slice a xs.length c))
  have s2 := (s1.other (p := ⟨w.heap.size + 1, 0, none⟩) (.int .i64 m) (show w.heap.size ≠ w.heap.size + 1 by omega)).other (p := ⟨w.heap.size + 1, 1, none⟩) (.slice b ys.length c2) (show w.heap.size ≠ w.heap.size + 1 by omega)
  have z1 := (h.z.other (p := ⟨w.heap.size, 0, none⟩) (.int .i64 n) (show w.heap.size + 1 ≠ w.heap.size by omega)).other (p := ⟨w.heap.size, 1, none⟩) (.slice a xs.length c) (show w.heap.size + 1 ≠ w.heap.size by omega)
  have z2 := z1.set (.int .i64 m) (.slice b ys.length c2)
  have q : ∀ {v : Value} {zs : List Int}, OwnI W (w.heap.size + 3) v zs → OwnI ((((W.setCell ⟨w.heap.size, 0, none⟩ (.int .i64 n)).setCell ⟨w.heap.size, 1, none⟩ (.slice a xs.length c)).setCell ⟨w.heap.size + 1, 0, none⟩ (.int .i64 m)).setCell ⟨w.heap.size + 1, 1, none⟩ (.slice b ys.length c2)) (w.heap.size + 3) v zs := fun hr => (((hr.setBelow (p := ⟨w.heap.size, 0, none⟩) (show w.heap.size < w.heap.size + 3 by omega) (.int .i64 n)).setBelow (p := ⟨w.heap.size, 1, none⟩) (show w.heap.size < w.heap.size + 3 by omega) (.slice a xs.length c)).setBelow (p := ⟨w.heap.size + 1, 0, none⟩) (show w.heap.size + 1 < w.heap.size + 3 by omega) (.int .i64 m)).setBelow (p := ⟨w.heap.size + 1, 1, none⟩) (show w.heap.size + 1 < w.heap.size + 3 by omega) (.slice b ys.length c2)
  have b1 := (((h.b.setCell (p := ⟨w.heap.size, 0, none⟩) (Nat.le_refl _) (.int .i64 n)).setCell (p := ⟨w.heap.size, 1, none⟩) (Nat.le_refl _) (.slice a xs.length c)).setCell (p := ⟨w.heap.size + 1, 0, none⟩) (show w.heap.size ≤ w.heap.size + 1 by omega) (.int .i64 m)).setCell (p := ⟨w.heap.size + 1, 1, none⟩) (show w.heap.size ≤ w.heap.size + 1 by omega) (.slice b ys.length c2)
  exact ⟨⟨s2, z2⟩, n, a, c, xs, m, b, c2, ys, rfl, (q h.r).mono (by omega), hl, h0, (q ho).mono (by omega), hy, h1, b1⟩

theorem OwnI.capLe {w : World} {B n cap : Nat} {a : Option Addr} {xs : List Int} (h : OwnI w B (.slice a n cap) xs) : n ≤ cap := by
  rcases h.2 with ⟨e, _⟩ | ⟨g, cap', cur, e, _, _, hc, _⟩
  · simp only [Value.slice.injEq] at e
    omega
  · simp only [Value.slice.injEq] at e
    omega
theorem Rd.take {w : World} {a : Option Addr} {xs : List Int} (h : Rd w a xs) (k : Nat) : Rd w a (xs.take k) :=
  ⟨Nat.le_trans (by rw [List.length_take]; exact Nat.min_le_right _ _) h.len, fun j hj => by
    have hj' : j < xs.length ∧ j < k := by rw [List.length_take] at hj; omega
    obtain ⟨b, off, e, hl, hc⟩ := h.cell j hj'.1
    refine ⟨b, off, e, hl, hc.trans ?_⟩
    simp [nth, List.getD_eq_getElem?_getD, List.getElem?_take, hj'.2]⟩

theorem ord_rel {n : Int} {xs : List Int} (h : ordB n xs = true) : RelP n xs := relB_p (ordB_iff.1 h).1

theorem card_mono {s t : Nat} : ∀ n, (∀ i, i < n → s.testBit i = true → t.testBit i = true) → card s n ≤ card t n
  | 0, _ => Nat.le_refl _
  | n+1, h => by
    have ih := card_mono n (fun i hi => h i (by omega))
    have h1 := h n (by omega)
    simp only [card]
    cases hs : s.testBit n
    · simp; split <;> omega
    · rw [h1 hs]; simp; omega
theorem card_lt {s t : Nat} : ∀ n, (∀ i, i < n → s.testBit i = true → t.testBit i = true) → (∃ i, i < n ∧ s.testBit i = false ∧ t.testBit i = true) → card s n < card t n
  | 0, _, ⟨i, hi, _⟩ => by omega
  | n+1, h, ⟨i, hi, h1, h2⟩ => by
    simp only [card]
    by_cases e : i = n
    · subst e
      have := card_mono i (fun j hj => h j (by omega))
      rw [h1, h2]; simp; omega
    · have ih := card_lt n (fun j hj => h j (by omega)) ⟨i, by omega, h1, h2⟩
      have h3 := h n (by omega)
      cases hs : s.testBit n
      · simp; split <;> omega
      · rw [h3 hs]; simp; omega
/-- may the element come next, when those of a set have come? -/
def firstOk (xs : List Int) (S i : Nat) : Bool := !S.testBit i && decide (sub (belowTo xs (i : Int) xs.length) S = 0)
theorem firstOk_iff {xs : List Int} {S i : Nat} : firstOk xs S i = true ↔ S.testBit i = false ∧ sub (belowTo xs (i : Int) xs.length) S = 0 := by simp [firstOk]
theorem below_sub {n : Int} {xs : List Int} (h : ordB n xs = true) {i j : Nat} (hj : j < xs.length) (hji : hasB (nth xs j) i = true) :
    card (belowTo xs (j : Int) xs.length) xs.length < card (belowTo xs (i : Int) xs.length) xs.length := by
  have ho := (ordB_iff.1 h).2
  refine card_lt _ (fun m hm hb => ?_) ⟨j, hj, ?_, ?_⟩
  · rw [belowTo_bit] at hb ⊢
    simp only [hm, decide_true, Bool.true_and] at hb ⊢
    have h1 := (okAtB_iff.1 (ho m hm)).2 j hj hb
    exact sub_zero.1 h1 _ hji
  · rw [belowTo_bit]
    simp only [hj, decide_true, Bool.true_and]
    exact (okAtB_iff.1 (ho j hj)).1
  · rw [belowTo_bit]
    simp only [hj, decide_true, Bool.true_and]
    exact hji
theorem first_some {n : Int} {xs : List Int} (h : ordB n xs = true) (S : Nat) : ∀ c i, i < xs.length → S.testBit i = false → card (belowTo xs (i : Int) xs.length) xs.length < c → ∃ m, m < xs.length ∧ firstOk xs S m = true
  | 0, _, _, _, hc => by omega
  | c+1, i, hi, hS, hc => by
    by_cases hz : sub (belowTo xs (i : Int) xs.length) S = 0
    · exact ⟨i, hi, firstOk_iff.2 ⟨hS, hz⟩⟩
    · rw [sub_zero] at hz
      simp only [Classical.not_forall] at hz
      obtain ⟨j, hb, hn⟩ := hz
      rw [belowTo_bit] at hb
      simp only [Bool.and_eq_true, decide_eq_true_eq] at hb
      have := below_sub h hb.1 hb.2
      exact first_some h S c j hb.1 (by simpa using hn) (by omega)
theorem first_ex {n : Int} {xs : List Int} (h : ordB n xs = true) {S : Nat} (hc : card S xs.length < xs.length) : ∃ m, m < xs.length ∧ firstOk xs S m = true := by
  by_cases hz : ∀ i, i < xs.length → S.testBit i = true
  · rw [card_all _ hz] at hc; omega
  · simp only [Classical.not_forall] at hz
    obtain ⟨i, hi, hn⟩ := hz
    exact first_some h S _ i hi (by simpa using hn) (Nat.lt_succ_self _)
/-- the first element that may come next -/
def nxt (xs : List Int) (S : Nat) : Nat := ((List.range xs.length).find? (firstOk xs S)).getD 0
theorem nxt_eq {xs : List Int} {S m : Nat} (hm : m < xs.length) (h : firstOk xs S m = true) (hb : ∀ j, j < m → firstOk xs S j = false) : nxt xs S = m := by
  have : (List.range xs.length).find? (firstOk xs S) = some m := by
    rw [List.find?_range_eq_some]
    exact ⟨h, by simpa using hm, fun j hj => by simp [hb j hj]⟩
  rw [nxt, this]; rfl
theorem nxt_ok {xs : List Int} {S : Nat} (h : ∃ m, m < xs.length ∧ firstOk xs S m = true) : nxt xs S < xs.length ∧ firstOk xs S (nxt xs S) = true ∧ ∀ j, j < nxt xs S → firstOk xs S j = false := by
  obtain ⟨m, hm, h1⟩ := h
  cases hf : (List.range xs.length).find? (firstOk xs S) with
  | none =>
    rw [List.find?_eq_none] at hf
    exact absurd h1 (hf m (by simpa using hm))
  | some x =>
    have hx := List.find?_range_eq_some.1 hf
    have e : nxt xs S = x := by rw [nxt, hf]; rfl
    rw [e]
    exact ⟨by simpa using hx.2.1, hx.1, fun j hj => by simpa using hx.2.2 j hj⟩
/-- the first k elements of the first extension, and the set of them -/
def firsts (xs : List Int) : Nat → List Int
  | 0 => []
  | k+1 => firsts xs k ++ [((nxt xs (setTo (firsts xs k) k) : Nat) : Int)]
theorem firsts_len (xs : List Int) : ∀ k, (firsts xs k).length = k
  | 0 => rfl
  | k+1 => by simp [firsts, firsts_len xs k]
theorem setTo_app {es : List Int} {x : Int} : ∀ k, k ≤ es.length → setTo (es ++ [x]) k = setTo es k
  | 0, _ => rfl
  | k+1, h => by
    simp only [setTo, setTo_app (es := es) (x := x) k (by omega)]
    have : nth (es ++ [x]) k = nth es k := by simp [nth, List.getD_eq_getElem?_getD, List.getElem?_append_left (show k < es.length by omega)]
    rw [this]
/-- the set of the first k elements of the first extension -/
def fset (xs : List Int) (k : Nat) : Nat := setTo (firsts xs k) k
theorem fset_next (xs : List Int) (k : Nat) : fset xs (k+1) = fset xs k ||| 2 ^ nxt xs (fset xs k) := by
  have hl := firsts_len xs k
  simp only [fset, setTo, firsts]
  rw [setTo_app k (by omega)]
  have : nth (firsts xs k ++ [((nxt xs (setTo (firsts xs k) k) : Nat) : Int)]) k = ((nxt xs (setTo (firsts xs k) k) : Nat) : Int) := by
    simp [nth, List.getD_eq_getElem?_getD, List.getElem?_append_right (show (firsts xs k).length ≤ k by omega), hl]
  rw [this]; rfl
theorem fset_card {n : Int} {xs : List Int} (h : ordB n xs = true) : ∀ k, k ≤ xs.length → card (fset xs k) xs.length = k ∧ fset xs k < 2 ^ xs.length
  | 0, _ => by
    have := card_setTo_le (es := firsts xs 0) (m := xs.length) 0
    exact ⟨by simp only [fset]; omega, Nat.two_pow_pos _⟩
  | k+1, hk => by
    have ih := fset_card h k (by omega)
    have h1 := nxt_ok (first_ex h (S := fset xs k) (by omega))
    have h2 := (firstOk_iff.1 h1.2.1).1
    rw [fset_next]
    exact ⟨by rw [card_or, ih.1, if_pos ⟨h1.1, h2⟩], or_lt ih.2 (two_lt h1.1)⟩
def fstL (n : Int) (xs : List Int) : List Int := if ordB n xs then firsts xs xs.length else []
theorem fstL_len (n : Int) (xs : List Int) : (fstL n xs).length ≤ 1048576 := by
  unfold fstL
  split
  · rename_i h
    have hp := ord_rel h
    rw [firsts_len]
    have := hp.len; have := hp.n1; omega
  · simp

theorem orUpTo_any (n : Nat) (w : World) (hn : n ≤ 1000) :
    Calls Try.prog 138 #[.int .i64 (n : Int)] w fun e w' => ∃ (a : Option Addr) (cap : Nat) (xs : List Int), e = .returned (.slice a xs.length cap) ∧ OwnI w' w.heap.size (.slice a xs.length cap) xs ∧ xs.length = n ∧ (∀ k, k < xs.length → -1 ≤ nth xs k ∧ nth xs k ≤ 1024) ∧ Below w.heap.size w w' := by
  go_enter Try.func138, Try.ntmps138
  go_wp2_with fail
  go_loopw [3, 4] (fun v i wr => ∃ (k : Nat) (a : Option Addr) (cap : Nat) (xs : List Int), k ≤ n ∧ xs.length = k ∧ i = .int .i64 k ∧ v = .slice a xs.length cap ∧ OwnI wr w.heap.size (.slice a xs.length cap) xs ∧ (∀ k, k < xs.length → -1 ≤ nth xs k ∧ nth xs k ≤ 1024) ∧ Below w.heap.size w wr) (fun _ i _ => n - (intOf i).toNat)
  case atStart => exact ⟨0, none, 0, [], Nat.zero_le _, rfl, rfl, rfl, OwnI.nil _ _, fun k hk => by simp at hk, Below.refl _ _⟩
  case round =>
    obtain ⟨k, a, cap, xs, hk, hxl, rfl, rfl, ho, hx, hb⟩ := hrel
    have HX := Lib.hid hx
    clear hx
    by_cases hlt : k < n
    · have k1 : (k : Int) < (n : Int) := by omega
      have hs := hb.size
      go_wp2_with (at_builtin; refine push_at (v := .slice a xs.length cap) (z := (k : Int)) rfl _ _ rfl rfl ho rfl (by omega) hs ?_; intro v7 w7 o7 hg7 hat7; revert hat7)
      intro hat7
      obtain ⟨av7, cv7, ev7⟩ := o7.form
      subst ev7
      have hl7 : (xs ++ [(k : Int)]).length = xs.length + 1 := by simp
      have hb7 := hb.trans (below_of_grown hg7 (fun c e => (ho.lt c e).1) hs)
      clear hat7 hg7
      go_wp2_with fail
      go_roundw
      case rel =>
        refine ⟨k + 1, av7, cv7, xs ++ [(k : Int)], by omega, by omega, by go_num, rfl, o7, fun j hj => ?_, hb7⟩
        by_cases e : j < xs.length
        · rw [nth_snoc_lt e]; exact HX.out j e
        · obtain rfl : j = xs.length := by omega
          rw [nth_snoc_end]; omega
      case measure => simp [intOf]; omega
    · go_wp2_with fail
      go_ret
      exact ⟨a, cap, xs, rfl, ho, by omega, HX.out, hb⟩

theorem l1Least_any (x y : Int) (w : World) :
    Calls Try.prog 74 #[.int .i64 x, .int .i64 y] w fun e w' => e = .returned (.int .i64 (min x y)) ∧ w = w' := by
  by_cases h : x < y
  · have H : Hid (min x y = x) := by rw [Hid]; omega
    go_enter Try.func74, Try.ntmps74
    go_wp2
    go_ret
    exact ⟨ret_int H.out.symm, rfl⟩
  · have H : Hid (min x y = y) := by rw [Hid]; omega
    go_enter Try.func74, Try.ntmps74
    go_wp2
    go_ret
    exact ⟨ret_int H.out.symm, rfl⟩

set_option maxRecDepth 100000 in
set_option maxHeartbeats 1000000 in
theorem names_any (p L n : Nat) (w : World) (h : Cur w p L) (hL : L ≤ 600000000) (hn : n ≤ 11) :
    Calls Try.prog 71 #[.pointer (some ⟨p, 0, none⟩), .int .i64 (n : Int)] w fun e w' => ∃ (a : Option Addr) (cap : Nat) (xs : List Int), e = .returned (.slice a xs.length cap) ∧ OwnI w' w.heap.size (.slice a xs.length cap) xs ∧ xs.length ≤ 12 ∧ (∀ k, k < xs.length → -1 ≤ nth xs k ∧ nth xs k ≤ 1024) ∧ Cur w' p (L + 100) ∧ Drawn w w' p := by
  have hpw := h.lt
  have H := Lib.hid h
  clear h
  go_enter Try.func71, Try.ntmps71
  go_wp2_with fail
  refine (l1Least_any (n : Int) 11 _).mono ?_
  rintro e w' ⟨rfl, rfl⟩
  rw [show min (n : Int) 11 = (n : Int) by omega]
  go_wp2_with fail
  refine (orUpTo_any n _ (by omega)).mono ?_
  rintro e w1 ⟨a, cap, xs, rfl, ho, hl, hx, hb⟩
  obtain rfl : n = xs.length := hl.symm
  have hc1 := H.out.below hb
  have hd1 := (Drawn.refl w p).below hb
  go_wp2_with fail
  go_loopw [15] (fun i wr => ∃ (k : Nat) (ys : List Int), k ≤ xs.length ∧ ys.length = xs.length ∧ i = .int .i64 k ∧ OwnI wr w.heap.size (.slice a xs.length cap) ys ∧ (∀ k, k < ys.length → -1 ≤ nth ys k ∧ nth ys k ≤ 1024) ∧ Cur wr p (L + 2 * k) ∧ Drawn w wr p) (fun i _ => xs.length - (intOf i).toNat)
  case atStart => exact ⟨0, xs, Nat.zero_le _, rfl, rfl, ho, hx, hc1, hd1⟩
  case round =>
    obtain ⟨k, ys, hk, hyl, rfl, hoy, hxy, hcy, hdy⟩ := hrel
    have HXY := Lib.hid hxy
    clear hxy
    by_cases hlt : k < xs.length
    · have k1 : (k : Int) < (xs.length : Int) := by omega
      obtain ⟨g, ea, hg0, hg1⟩ := hoy.head (by omega)
      subst ea
      have HO := Lib.hid hoy
      have HD := Lib.hid hdy
      have HC := Lib.hid hcy
      clear hoy hdy hcy
      go_wp2_with fail
      refine (pick_any p (L + 2 * k) (xs.length : Int) _ HC.out (by omega) (by omega)).mono ?_
      rintro e w2 ⟨r, rfl, hr0, hr1, hc2, hd2⟩
      obtain ⟨j, rfl⟩ := Int.eq_ofNat_of_zero_le hr0
      have hj : j < xs.length := by omega
      have HO2 := Lib.hid (HO.out.drawn hd2 hpw)
      have HD2 := Lib.hid (HD.out.trans hd2)
      have HC2 := Lib.hid hc2
      have ⟨ck, fk⟩ := HO2.out.at' hyl.symm (i := k) (by omega)
      have ⟨cj, fj⟩ := HO2.out.at' hyl.symm (i := j) (by omega)
      have j1 : (j : Int) < (xs.length : Int) := by omega
      have j0 : (0 : Int) ≤ (j : Int) := by omega
      have HN : Hid (∀ m, OwnI (((w2.drewN m).setCell ⟨g, k, none⟩ (.int .i64 (nth ys j))).setCell ⟨g, j, none⟩ (.int .i64 (nth ys k))) w.heap.size (.slice (some ⟨g, 0, none⟩) xs.length cap) ((ys.set k (nth ys j)).set j (nth ys k)) ∧ Cur (((w2.drewN m).setCell ⟨g, k, none⟩ (.int .i64 (nth ys j))).setCell ⟨g, j, none⟩ (.int .i64 (nth ys k))) p (L + 2 * (k + 1)) ∧ Drawn w (((w2.drewN m).setCell ⟨g, k, none⟩ (.int .i64 (nth ys j))).setCell ⟨g, j, none⟩ (.int .i64 (nth ys k))) p) := fun m => by
        have b := Joins.below_draws w2.heap.size w2 m
        have o1 := ((HO2.out.below b (Nat.le_refl _)).put hyl.symm k (nth ys j)).1
        have o2 := (o1.put (by rw [List.length_set]; exact hyl.symm) j (nth ys k)).1
        refine ⟨o2, ?_, ?_⟩
        · exact (((HC2.out.below b).set ⟨g, k, none⟩ _ (show p < g by omega)).set ⟨g, j, none⟩ _ (show p < g by omega)).mono (by omega)
        · exact ((HD2.out.below b).set ⟨g, k, none⟩ _ hg0).set ⟨g, j, none⟩ _ hg0
      have HX2 : Hid (∀ i, i < ((ys.set k (nth ys j)).set j (nth ys k)).length → -1 ≤ nth ((ys.set k (nth ys j)).set j (nth ys k)) i ∧ nth ((ys.set k (nth ys j)).set j (nth ys k)) i ≤ 1024) := fun i hi => by
        have h9 : i < ys.length := by simpa using hi
        rw [nth_set (by rw [List.length_set]; omega)]
        split
        · exact HXY.out k (by omega)
        · rw [nth_set (by omega)]
          split
          · exact HXY.out j (by omega)
          · exact HXY.out i h9
      have HL2 : Hid (((ys.set k (nth ys j)).set j (nth ys k)).length = xs.length) := by simp [Hid, hyl]
      generalize (ys.set k (nth ys j)).set j (nth ys k) = zs at HN HX2 HL2
      generalize nth ys j = yj at *
      generalize nth ys k = yk at *
      clear hc2 hd2
      by_cases hkj : k = j
      · subst hkj
        obtain rfl : yj = yk := by have := cj.symm.trans ck; simpa using this
        go_wp2_with fail
        go_quiet (fail)
        go_wp2_with fail
        go_roundw
        case rel => exact ⟨k + 1, zs, by omega, HL2.out, by go_num, (HN.out _).1, HX2.out, (HN.out _).2.1, (HN.out _).2.2⟩
        case measure => simp [intOf]; omega
      · have hkj2 : ¬ j = k := fun h => hkj h.symm
        go_wp2_with fail
        go_quiet (fail)
        go_wp2_with fail
        go_roundw
        case rel => exact ⟨k + 1, zs, by omega, HL2.out, by go_num, (HN.out _).1, HX2.out, (HN.out _).2.1, (HN.out _).2.2⟩
        case measure => simp [intOf]; omega
    · obtain rfl : k = xs.length := by omega
      have HO := Lib.hid hoy
      have HD := Lib.hid hdy
      clear hoy hdy
      go_wp2_with fail
      refine (one_any p (L + 2 * xs.length) 10 _ hcy (by omega) (by omega)).mono ?_
      rintro e w2 ⟨he, hc2, hd2⟩
      have HO2 := Lib.hid (HO.out.drawn hd2 hpw)
      have HD2 := Lib.hid (HD.out.trans hd2)
      have HC2 := Lib.hid hc2
      clear hc2 hd2
      rcases he with rfl | rfl
      · go_wp2_with fail
        refine (pick_any p (L + 2 * xs.length + 2) 3 _ HC2.out (by omega) (by omega)).mono ?_
        rintro e w3 ⟨r, rfl, hr0, hr1, hc3, hd3⟩
        have HO3 := Lib.hid (HO2.out.drawn hd3 hpw)
        have HD3 := Lib.hid (HD2.out.trans hd3)
        have HC3 := Lib.hid hc3
        have hs3 := HD3.out.size
        have er : IntKind.i64.wrap (r - 1) = r - 1 := wrap64_small _ (by omega) (by omega)
        clear hc3 hd3
        go_wp2_with (at_builtin; refine push_at (v := .slice a xs.length cap) (z := r - 1) rfl _ _ rfl rfl HO3.out rfl (by omega) hs3 ?_; intro v7 w7 o7 hg7 hat7; revert hat7)
        intro hat7
        obtain ⟨av7, cv7, ev7⟩ := o7.form
        subst ev7
        have hl7 : (ys ++ [r - 1]).length = ys.length + 1 := by simp
        have hd7 := HD3.out.grown hg7 (fun c e => (HO3.out.lt c e).1)
        have hc7 := HC3.out.kept hg7 (fun g e => by have := (HO3.out.lt g e).1; omega)
        clear hat7 hg7
        go_wp2_with fail
        go_ret
        refine ⟨av7, cv7, ys ++ [r - 1], rfl, o7, by omega, fun j hj => ?_, hc7.mono (by omega), hd7⟩
        by_cases e : j < ys.length
        · rw [nth_snoc_lt e]; exact HXY.out j e
        · obtain rfl : j = ys.length := by omega
          rw [nth_snoc_end]; omega
      · go_wp2_with fail
        go_ret
        exact ⟨a, cap, ys, by rw [hyl]; rfl, by rw [hyl]; exact HO2.out, by omega, HXY.out, HC2.out.mono (by omega), HD2.out⟩

theorem orPart_any (n : Int) (a : Option Addr) (xs : List Int) (cap : Nat) (a1 : Option Addr) (es : List Int) (cap1 : Nat) (w : World) (hx : Rd w a xs) (hs : ∀ k, k < xs.length → 0 ≤ nth xs k ∧ nth xs k < 1024) (hy : Rd w a1 es) (he : Elems xs.length es) :
    Calls Try.prog 73 #[.agg #[.int .i64 n, .slice a xs.length cap], .slice a1 es.length cap1] w fun e w' => ∃ a' cap', e = .returned (.agg #[.int .i64 (es.length : Int), .slice a' es.length cap']) ∧ OwnI w' w.heap.size (.slice a' es.length cap') (parts xs es es.length) ∧ Below w.heap.size w w' := by
  obtain ⟨i0, hi, hz0, hz1, hz2⟩ := info_parts infoInt
  have hl10 := he.len
  go_enter Try.func73, Try.ntmps73
  go_wp2_with fail
  go_loopw [16] (fun i wr => ∃ (k : Nat) (v : Value), k ≤ es.length ∧ i = .int .i64 k ∧ OwnI wr (w.heap.size + 3) v (parts xs es k) ∧ Below w.heap.size w wr ∧ Box2 wr w.heap.size (.int .i64 n) (.slice a xs.length cap) ∧ Var2 wr (w.heap.size + 1) (.int .i64 0) (.slice none 0 0) ∧ Var2 wr (w.heap.size + 2) (.int .i64 (es.length : Int)) v) (fun i _ => es.length - (intOf i).toNat)
  case atStart => exact ⟨0, .slice none 0 0, Nat.zero_le _, rfl, OwnI.nil _ _, (by repeat (first | exact Below.refl _ _ | assumption | refine Below.alloc ?_ (by first | exact Nat.le_refl _ | (simp only [World.size_alloc, World.size_setCell, World.size_drew]; omega) | omega) _ | refine Below.setCell ?_ (by first | exact Nat.le_refl _ | (simp only [World.size_alloc, World.size_setCell, World.size_drew]; omega) | omega) _ | refine Below.drew ?_)), (Box2.new w _ _ _).below (by repeat (first | exact Below.refl _ _ | assumption | refine Below.alloc ?_ (by first | exact Nat.le_refl _ | (simp only [World.size_alloc, World.size_setCell, World.size_drew]; omega) | omega) _ | refine Below.setCell ?_ (by first | exact Nat.le_refl _ | (simp only [World.size_alloc, World.size_setCell, World.size_drew]; omega) | omega) _ | refine Below.drew ?_)), by simpa using ((Var2.new (w.alloc (.cells #[.int .i64 n, .slice a xs.length cap] 26)) (.int .i64 0) (.slice none 0 0) 26).alloc (.cells #[.int .i64 (es.length : Int), .slice none 0 0] 26)), by simpa using Var2.new ((w.alloc (.cells #[.int .i64 n, .slice a xs.length cap] 26)).alloc (.cells #[.int .i64 0, .slice none 0 0] 26)) (.int .i64 (es.length : Int)) (.slice none 0 0) 26⟩
  case round =>
    obtain ⟨k, v, hk, rfl, hown, hb, hB, hR, hV⟩ := hrel
    have ⟨zB, cB, dB⟩ := hB
    obtain ⟨av, capv, rfl⟩ := hown.form
    rw [parts_len] at hV hown
    have hxr := hx.below hb
    have hyr := hy.below hb
    have hbz := hb.size
    by_cases hlt : k < es.length
    · obtain ⟨b1, off1, rfl, hbl1, hc1⟩ := hyr.cell k hlt
      obtain ⟨i, hil, hie⟩ := he.ok k hlt
      obtain ⟨b2, off2, rfl, hbl2, hc2⟩ := hxr.cell i hil
      have ⟨s0, s1⟩ := hs i hil
      have s2 : nth xs i ≤ 9223372036854775807 := by omega
      have HE := Lib.hid hie
      rw [hie] at hc1
      clear hie
      go_wp2_with fail
      go_loop [8, 22] (fun f i' => ∃ j : Nat, j ≤ es.length ∧ i' = .int .i64 j ∧ f = .int .i64 (partTo es (nth xs i) j)) (fun _ i => es.length - (intOf i).toNat)
      case atStart => exact ⟨0, Nat.zero_le _, rfl, rfl⟩
      case round =>
        obtain ⟨j, hj, rfl, rfl⟩ := hrel
        by_cases hjl : j < es.length
        · obtain ⟨b3, off3, e3, hbl3, hc3⟩ := hyr.cell j hjl
          simp only [Option.some.injEq, Addr.mk.injEq, and_true] at e3
          obtain ⟨rfl, rfl⟩ := e3
          obtain ⟨m, hml, hme⟩ := he.ok j hjl
          have hj0 : 0 ≤ nth es j := by rw [hme]; omega
          have hps := partTo_small es (nth xs i) (k := j) (by omega)
          have hor := or_bit (b := partTo es (nth xs i) j) (k := j) (by omega) (by omega)
          have HO := Lib.hid hor
          clear hor hps hme
          cases hin : hasB (nth xs i) (nth es j)
          · go_wp2_with fail
            refine (orHas_any _ _ _ s0 s2 hj0).mono ?_
            rintro e w' ⟨rfl, rfl⟩
            go_wp2_with fail
            go_round
            case rel => exact ⟨j + 1, by omega, by go_num, by simp [partTo, hin]⟩
            case measure => simp [intOf]; omega
          · go_wp2_with fail
            refine (orHas_any _ _ _ s0 s2 hj0).mono ?_
            rintro e w' ⟨rfl, rfl⟩
            go_wp2_with fail
            go_round
            case rel => exact ⟨j + 1, by omega, by go_num, val_int (by rw [HO.out]; simp [partTo, hin])⟩
            case measure => simp [intOf]; omega
        · obtain rfl : j = es.length := by omega
          have ⟨⟨zV, cV, dV⟩, fV, gV⟩ := hV
          go_wp2_with (at_builtin; refine wpList_append_own _ rfl _ _ 24 rfl (w.heap.size + 3) 3 i0 (.int .i64 0) 1 8 Try.underlying24 hi hz0 hz1 hz2 rfl (by decide) (.slice av k capv) k ((parts xs es k).map (Value.int .i64)) rfl (by have h := hown.alloc (.cells #[.int .i64 ((partTo es (nth xs i) es.length : Nat) : Int)] 3); unfold OwnI at h; rw [parts_len] at h; exact h) ⟨wr.heap.size, 0, none⟩ 1 1 [.int .i64 ((partTo es (nth xs i) es.length : Nat) : Int)] rfl rfl (cell_one_new _ _ _) (by intro u hu; simp at hu; subst hu; rfl) (by unfold maxLen; omega) (by omega) (by simp; omega) ?_)
          intro v' w3 hown3 hgrow _
          have hg2 := grown_alloc_set hgrow
          have o3 : OwnI w3 (w.heap.size + 3) v' (parts xs es (k + 1)) := by
            unfold OwnI
            rw [parts_len, parts, fmap_succ, List.map_append, partE, HE.out]
            exact hown3
          have hU := hown.lt
          have B3 := hB.kept hg2 (ne_own (fun c e => by have := hU c e; omega))
          have R3 := hR.kept hg2 (ne_own (fun c e => by have := hU c e; omega))
          have V3 := hV.kept hg2 (ne_own (fun c e => by have := hU c e; omega))
          have bw3 := hb.trans (below_of_grown hg2 (fun c e => by have := hU c e; omega) hb.size)
          have ⟨⟨zV3, cV3, dV3⟩, fV3, gV3⟩ := V3
          obtain ⟨a3, cap3, rfl⟩ := o3.form
          clear hown3 hgrow cV dV fV gV cB dB hU
          go_wp2_with fail
          go_roundw
          case rel => exact ⟨k + 1, _, by omega, by go_num, o3.setBelow (p := ⟨w.heap.size + 2, 1, none⟩) (show w.heap.size + 2 < w.heap.size + 3 by omega) _, bw3.setCell (p := ⟨w.heap.size + 2, 1, none⟩) (show w.heap.size ≤ w.heap.size + 2 by omega) _, B3.set (p := ⟨w.heap.size + 2, 1, none⟩) _ (show w.heap.size ≠ w.heap.size + 2 by omega), R3.other (p := ⟨w.heap.size + 2, 1, none⟩) _ (show w.heap.size + 1 ≠ w.heap.size + 2 by omega), V3.set1 _⟩
          case measure => simp [intOf]; omega
    · obtain rfl : k = es.length := by omega
      have ⟨⟨zR, cR, dR⟩, fR, gR⟩ := hR
      have ⟨⟨zV, cV, dV⟩, fV, gV⟩ := hV
      go_wp2_with fail
      have R3 := hR.set (.int .i64 (es.length : Int)) (.slice av es.length capv)
      refine bodyPost_ret (v := .agg #[.int .i64 (es.length : Int), .slice av es.length capv]) (by have ⟨⟨_, q1, q2⟩, _, _⟩ := R3; simp [results, Try.results73, go_sem, q1, q2]) rfl ?_
      refine ⟨av, capv, rfl, ?_, ?_⟩
      · exact ((hown.setBelow (p := ⟨w.heap.size + 1, 0, none⟩) (show w.heap.size + 1 < w.heap.size + 3 by omega) _).setBelow (p := ⟨w.heap.size + 1, 1, none⟩) (show w.heap.size + 1 < w.heap.size + 3 by omega) _).mono (by omega)
      · exact (hb.setCell (p := ⟨w.heap.size + 1, 0, none⟩) (show w.heap.size ≤ w.heap.size + 1 by omega) _).setCell (p := ⟨w.heap.size + 1, 1, none⟩) (show w.heap.size ≤ w.heap.size + 1 by omega) _

theorem orSet_any (a : Option Addr) (es : List Int) (cap : Nat) (w : World) (hx : Rd w a es) (he : ∀ k, k < es.length → 0 ≤ nth es k ∧ nth es k < 10) :
    Calls Try.prog 139 #[.slice a es.length cap] w fun e w' => e = .returned (.int .i64 (setTo es es.length)) ∧ w = w' := by
  have hlen := hx.len
  go_enter Try.func139, Try.ntmps139
  go_wp2_with fail
  go_loop [3, 8] (fun s i => ∃ k : Nat, k ≤ es.length ∧ i = .int .i64 k ∧ s = .int .i64 (setTo es k)) (fun _ i => es.length - (intOf i).toNat)
  case atStart => exact ⟨0, Nat.zero_le _, rfl, rfl⟩
  case round =>
    obtain ⟨k, hk, rfl, rfl⟩ := hrel
    by_cases hlt : k < es.length
    · obtain ⟨b, off, rfl, hbl, hc⟩ := hx.cell k hlt
      have ⟨e0, e1⟩ := he k hlt
      obtain ⟨x, hx'⟩ := Int.eq_ofNat_of_zero_le e0
      have hs : setTo es k < 2 ^ 10 := setTo_lt k (fun i hi => by have := he i (by omega); omega)
      have hor := or_bit (b := setTo es k) (k := x) (by omega) (by omega)
      have HO := Lib.hid hor
      have HX := Lib.hid hx'
      rw [hx'] at hc
      have hx0 : (0 : Int) ≤ (x : Int) := by omega
      have hx1 : (x : Int) < 10 := by omega
      clear hor hs hx' e0 e1
      go_wp2_with fail
      go_round
      case rel => exact ⟨k + 1, by omega, by go_num, val_int (by rw [HO.out, setTo, HX.out]; rfl)⟩
      case measure => simp [intOf]; omega
    · obtain rfl : k = es.length := by omega
      go_wp2_with fail
      go_ret
      exact ⟨rfl, rfl⟩

theorem orSet_is {a : Option Addr} {es : List Int} {cap : Nat} {w : World} (hx : Rd w a es) (he : ∀ k, k < es.length → 0 ≤ nth es k ∧ nth es k < 10) (m : Nat) :
    Calls Try.prog 139 #[.slice a es.length cap] (w.drewN m) fun e w' => e = .returned (.int .i64 (setTo es es.length)) ∧ ∃ k, w' = w.drewN k :=
  Calls.quiet_of_same ((orSet_any a es cap (w.drewN m) (hx.below (Joins.below_draws _ _ _)) he).mono (fun e w' hh => ⟨hh.1, hh.2.symm⟩))
theorem orNames_any (n : Int) (a : Option Addr) (es : List Int) (cap : Nat) (w : World) (hx : Rd w a es) (h0 : 0 ≤ n) (h1 : n ≤ 10) :
    Calls Try.prog 72 #[.int .i64 n, .slice a es.length cap] w fun e w' => e = .returned (.bool (permB n es)) ∧ Below w.heap.size w w' := by
  have hpe := Lib.hid (names_eq (es := es) h0)
  cases h2 : ((es.length : Int) == n)
  · have HR : Hid (permB n es = false) := by
      have : ¬ (es.length : Int) = n := by simpa using h2
      rw [Hid, hpe.out]; simp [this]
    go_enter Try.func72, Try.ntmps72
    go_wp2_with fail
    go_quiet (fail)
    go_wp2_with fail
    go_ret
    exact ⟨ret_bool HR.out.symm, Joins.below_draws _ _ _⟩
  · have he2 : (es.length : Int) = n := by simpa using h2
    cases h3 : allB es 0 (n - 1)
    · have HR : Hid (permB n es = false) := by rw [Hid, hpe.out]; simp [h3]
      have H3 := Lib.hid h3
      clear h3 he2
      go_enter Try.func72, Try.ntmps72
      go_wp2_with fail
      go_quiet ((go_at_call 137; exact l1All_is hx H3.out _))
      go_wp2_with fail
      go_ret
      exact ⟨ret_bool HR.out.symm, Joins.below_draws _ _ _⟩
    · have hel : ∀ k, k < es.length → 0 ≤ nth es k ∧ nth es k < 10 := fun k hk => by have := allB_nth h3 hk; omega
      have hfull := full_eq h0 h1
      have hp2 : ((2 ^ n.toNat - 1 : Nat) : Int) = 2 ^ n.toNat - 1 := by
        have : ((2 ^ n.toNat : Nat) : Int) = (2 : Int) ^ n.toNat := by simp
        have := Nat.one_le_two_pow (n := n.toNat)
        omega
      have HR : Hid (permB n es = (((setTo es es.length : Nat) : Int) == wrap64 (wrap64 (2 ^ n.toNat) - 1))) := by
        rw [Hid, hpe.out, hfull, Bool.eq_iff_iff]
        simp only [he2, h3, decide_true, Bool.true_and, decide_eq_true_eq, beq_iff_eq]
        omega
      have H3 := Lib.hid h3
      clear h3 he2 hfull hp2
      go_enter Try.func72, Try.ntmps72
      go_wp2_with fail
      go_quiet ((first | (go_at_call 137; exact l1All_is hx H3.out _) | (go_at_call 139; exact orSet_is hx hel _)))
      go_wp2_with fail
      go_ret
      exact ⟨ret_bool HR.out.symm, Joins.below_draws _ _ _⟩

set_option maxRecDepth 100000 in
set_option maxHeartbeats 16000000 in
theorem drFind_any (a : Option Addr) (n cap : Nat) (w : World) (hR : RdB w a n) (hn : n ≤ 1048576) :
    Calls Try.prog 10 #[.slice a n cap] w (DrawnOO w) := by
  go_enter Try.func10, Try.ntmps10
  go_wp2_with fail
  have ba : Below w.heap.size w (w.alloc (.cells #[.int .i64 0, .slice none 0 0] 26)) := (by repeat (first | exact Below.refl _ _ | assumption | refine Below.alloc ?_ (by first | exact Nat.le_refl _ | (simp only [World.size_alloc, World.size_setCell, World.size_drew]; omega) | omega) _ | refine Below.setCell ?_ (by first | exact Nat.le_refl _ | (simp only [World.size_alloc, World.size_setCell, World.size_drew]; omega) | omega) _ | refine Below.drew ?_))
  have bb : Below (w.alloc (.cells #[.int .i64 0, .slice none 0 0] 26)).heap.size (w.alloc (.cells #[.int .i64 0, .slice none 0 0] 26)) ((w.alloc (.cells #[.int .i64 0, .slice none 0 0] 26)).alloc (.cells #[.int .i64 0, .slice none 0 0] 26)) := (by repeat (first | exact Below.refl _ _ | assumption | refine Below.alloc ?_ (by first | exact Nat.le_refl _ | (simp only [World.size_alloc, World.size_setCell, World.size_drew]; omega) | omega) _ | refine Below.setCell ?_ (by first | exact Nat.le_refl _ | (simp only [World.size_alloc, World.size_setCell, World.size_drew]; omega) | omega) _ | refine Below.drew ?_))
  have hcur := cur_new (w := (w.alloc (.cells #[.int .i64 0, .slice none 0 0] 26)).alloc (.cells #[.int .i64 0, .slice none 0 0] 26)) (cap := cap) (t := 80) ((hR.below ba).below bb) hn
  rw [World.size_alloc, World.size_alloc] at hcur
  refine (anyOrder_any (w.heap.size + 1 + 1) 0 7 _ hcur (by omega) (by omega)).mono ?_
  rintro e w1 ⟨n1, a1, c1, xs, rfl, ho1, hl1, h0, h1, hx1, hc1, hd1⟩
  have b1 : Below (w.heap.size + 2) ((w.alloc (.cells #[.int .i64 0, .slice none 0 0] 26)).alloc (.cells #[.int .i64 0, .slice none 0 0] 26)) w1 := hd1.of_alloc.bel (Nat.le_refl _) (by simp)
  have hs1 : w.heap.size + 3 ≤ w1.heap.size := by have := hd1.size; simpa using this
  have bb1 : Below w1.heap.size w1 (w1.alloc (.cells #[.int .i64 n1, .slice a1 xs.length c1] 26)) := (by repeat (first | exact Below.refl _ _ | assumption | refine Below.alloc ?_ (by first | exact Nat.le_refl _ | (simp only [World.size_alloc, World.size_setCell, World.size_drew]; omega) | omega) _ | refine Below.setCell ?_ (by first | exact Nat.le_refl _ | (simp only [World.size_alloc, World.size_setCell, World.size_drew]; omega) | omega) _ | refine Below.drew ?_))
  have HK : Hid (FndK w n1 a1 c1 xs w1.heap.size (w1.alloc (.cells #[.int .i64 n1, .slice a1 xs.length c1] 26)) 1000) := by
    have hV0 := (Var2.new w (.int .i64 0) (.slice none 0 0) 26).alloc (.cells #[.int .i64 0, .slice none 0 0] 26)
    have hV1 := Var2.new (w.alloc (.cells #[.int .i64 0, .slice none 0 0] 26)) (.int .i64 0) (.slice none 0 0) 26
    rw [World.size_alloc] at hV1
    exact ⟨(hV0.below (by simpa using b1)).below bb1, (hV1.below (by simpa using b1)).below bb1, Var2.new w1 _ _ _, (ho1.mono (by simp)).below bb1 (Nat.le_refl _), (hc1.mono (by omega)).below bb1, ((ba.trans (bb.mono (by simp))).trans (b1.mono (by omega))).trans (bb1.mono (by omega)), hs1, by simp⟩
  obtain ⟨w2, hw2⟩ : ∃ x : World, x = w1.alloc (.cells #[.int .i64 n1, .slice a1 xs.length c1] 26) := ⟨_, rfl⟩
  rw [← hw2] at HK
  have HW2 := Lib.hid hw2
  have hnn : -9223372036854775808 ≤ n1 ∧ n1 ≤ 9223372036854775807 := by omega
  have ⟨⟨zB, cB, dB⟩, fB, gB⟩ := HK.out.bx
  clear hw2 hx1 hcur hc1 hd1 ho1 b1 bb1 ba bb hR
  go_wp2_with fail
  rw [← HW2.out]
  clear HW2 zB cB dB fB gB
  refine (orRelation_any n1 a1 xs c1 _ HK.out.r.rd).mono ?_
  rintro e w3 ⟨rfl, hb3⟩
  replace HK := Lib.hid (HK.out.below hb3)
  clear hb3
  cases hrb : relB n1 xs
  · clear hrb
    have ⟨⟨zB, cB, dB⟩, fB, gB⟩ := HK.out.bx
    go_wp2_with fail
    go_region_held3 (fun w' => w'.cell? ⟨w1.heap.size, 0, none⟩ = some (.int .i64 n1) ∧ w'.cell? ⟨w1.heap.size, 1, none⟩ = some (.slice a1 xs.length c1))
      (first | exact ⟨Q6.1.2.1, Q6.1.2.2⟩ | exact ⟨Q5.1.2.1, Q5.1.2.2⟩ | exact ⟨Q4.1.2.1, Q4.1.2.2⟩ | go_keep)
      (first | (go_at_call 68; refine (anyOrder_any (w.heap.size + 2) 1000 5 _ (HK.out.below (Joins.below_draws _ _ _)).cu (by omega) (by omega)).mono ?_; rintro e w5 ⟨m5, a5, c5, ys, rfl, ho5, hl5, h05, h15, hx5, hc5, hd5⟩; have K5 := (HK.out.below (Joins.below_draws _ _ _)).drawn hd5 hc5; have Q4 := K5.bx; have Q5 := (Q4.other (p := ⟨w.heap.size, 0, none⟩) (.int .i64 n1) (show w1.heap.size ≠ w.heap.size by omega)).other (p := ⟨w.heap.size, 1, none⟩) (.slice a1 xs.length c1) (show w1.heap.size ≠ w.heap.size by omega); have Q6 := (Q5.other (p := ⟨w.heap.size + 1, 0, none⟩) (.int .i64 m5) (show w1.heap.size ≠ w.heap.size + 1 by omega)).other (p := ⟨w.heap.size + 1, 1, none⟩) (.slice a5 ys.length c5) (show w1.heap.size ≠ w.heap.size + 1 by omega); have vO := K5.o; have ⟨⟨zO, cO, dO⟩, fO, gO⟩ := vO; have vZ := K5.z; have ⟨⟨zZ, cZ, dZ⟩, fZ, gZ⟩ := vZ; have ho6 : OwnI w5 (w.heap.size + 3) (.slice a5 ys.length c5) ys := ho5.mono (by have := HK.out.s; simp; omega)))
    go_wp2_with fail
    have hE := oo_end (m := m5) K5 hl1 ho6 (by omega)
    generalize ((((w5.setCell ⟨w.heap.size, 0, none⟩ (.int .i64 n1)).setCell ⟨w.heap.size, 1, none⟩ (.slice a1 xs.length c1)).setCell ⟨w.heap.size + 1, 0, none⟩ (.int .i64 m5)).setCell ⟨w.heap.size + 1, 1, none⟩ (.slice a5 ys.length c5)) = WE at hE ⊢
    obtain ⟨⟨R3, R4⟩, hD⟩ := hE (by omega) (by omega)
    refine bodyPost_ret (v := .tuple #[.agg #[.int .i64 n1, .slice a1 xs.length c1], .agg #[.int .i64 m5, .slice a5 ys.length c5]]) (by have ⟨⟨_, q1, q2⟩, _, _⟩ := R3; have ⟨⟨_, q3, q4⟩, _, _⟩ := R4; simp [results, Try.results10, go_sem, q1, q2, q3, q4]) rfl ?_
    exact hD
  · have hrp := Lib.hid (relB_p hrb)
    clear hrb
    by_cases hn0 : 0 < n1
    · have ⟨⟨zB, cB, dB⟩, fB, gB⟩ := HK.out.bx
      go_wp2_with fail
      refine (one_any (w.heap.size + 2) 1000 2 _ HK.out.cu (by omega) (by omega)).mono ?_
      rintro e w4 ⟨he, hc4, hd4⟩
      replace HK := Lib.hid (HK.out.drawn hd4 hc4)
      clear hc4 hd4 cB dB zB fB gB
      rcases he with rfl | rfl
      · obtain ⟨N, rfl⟩ := Int.eq_ofNat_of_zero_le (show 0 ≤ n1 by omega)
        have ⟨⟨zB, cB, dB⟩, fB, gB⟩ := HK.out.bx
        go_wp2_with fail
        refine (names_any (w.heap.size + 2) 1002 N _ HK.out.cu (by omega) (by omega)).mono ?_
        rintro e w5 ⟨a5, c5, es, rfl, ho5, hl5, hx5, hc5, hd5⟩
        have HN := Lib.hid (ho5.mono (B' := w.heap.size + 3) (by have := HK.out.s; omega))
        replace HK := Lib.hid (HK.out.drawn hd5 hc5)
        clear ho5 hx5 hc5 hd5 cB dB zB fB gB
        have ⟨⟨zB, cB, dB⟩, fB, gB⟩ := HK.out.bx
        go_wp2_with fail
        refine (orNames_any (N : Int) a5 es c5 _ HN.out.rd (by omega) (by have := hrp.out.n1; omega)).mono ?_
        rintro e w6 ⟨rfl, hb6⟩
        replace HK := Lib.hid (HK.out.below hb6)
        replace HN := Lib.hid (HN.out.below hb6 (Nat.le_refl _))
        clear hb6 cB dB zB fB gB
        cases hpm : permB (N : Int) es
        · clear hpm
          have ⟨⟨zB, cB, dB⟩, fB, gB⟩ := HK.out.bx
          go_wp2_with fail
          go_region_held3 (fun w' => w'.cell? ⟨w1.heap.size, 0, none⟩ = some (.int .i64 (N : Int)) ∧ w'.cell? ⟨w1.heap.size, 1, none⟩ = some (.slice a1 xs.length c1))
            (first | exact ⟨Q6.1.2.1, Q6.1.2.2⟩ | exact ⟨Q5.1.2.1, Q5.1.2.2⟩ | exact ⟨Q4.1.2.1, Q4.1.2.2⟩ | go_keep)
            (first | (go_at_call 68; refine (anyOrder_any (w.heap.size + 2) 1102 5 _ (HK.out.below (Joins.below_draws _ _ _)).cu (by omega) (by omega)).mono ?_; rintro e w5 ⟨m5, a5, c5, ys, rfl, ho5, hl5, h05, h15, hx5, hc5, hd5⟩; have K5 := (HK.out.below (Joins.below_draws _ _ _)).drawn hd5 hc5; have Q4 := K5.bx; have Q5 := (Q4.other (p := ⟨w.heap.size, 0, none⟩) (.int .i64 (N : Int)) (show w1.heap.size ≠ w.heap.size by omega)).other (p := ⟨w.heap.size, 1, none⟩) (.slice a1 xs.length c1) (show w1.heap.size ≠ w.heap.size by omega); have Q6 := (Q5.other (p := ⟨w.heap.size + 1, 0, none⟩) (.int .i64 m5) (show w1.heap.size ≠ w.heap.size + 1 by omega)).other (p := ⟨w.heap.size + 1, 1, none⟩) (.slice a5 ys.length c5) (show w1.heap.size ≠ w.heap.size + 1 by omega); have vO := K5.o; have ⟨⟨zO, cO, dO⟩, fO, gO⟩ := vO; have vZ := K5.z; have ⟨⟨zZ, cZ, dZ⟩, fZ, gZ⟩ := vZ; have ho6 : OwnI w5 (w.heap.size + 3) (.slice a5 ys.length c5) ys := ho5.mono (by have := HK.out.s; simp; omega)))
          go_wp2_with fail
          have hE := oo_end (m := m5) K5 hl1 ho6 (by omega)
          generalize ((((w5.setCell ⟨w.heap.size, 0, none⟩ (.int .i64 (N : Int))).setCell ⟨w.heap.size, 1, none⟩ (.slice a1 xs.length c1)).setCell ⟨w.heap.size + 1, 0, none⟩ (.int .i64 m5)).setCell ⟨w.heap.size + 1, 1, none⟩ (.slice a5 ys.length c5)) = WE at hE ⊢
          obtain ⟨⟨R3, R4⟩, hD⟩ := hE (by omega) (by omega)
          refine bodyPost_ret (v := .tuple #[.agg #[.int .i64 (N : Int), .slice a1 xs.length c1], .agg #[.int .i64 m5, .slice a5 ys.length c5]]) (by have ⟨⟨_, q1, q2⟩, _, _⟩ := R3; have ⟨⟨_, q3, q4⟩, _, _⟩ := R4; simp [results, Try.results10, go_sem, q1, q2, q3, q4]) rfl ?_
          exact hD
        · have hel : (es.length : Int) = (N : Int) := (permB_iff.1 hpm).1
          have hxl := hrp.out.len
          have HPA : Hid (∀ W (k : Nat), k ≤ es.length → Rd W a1 xs → Rd W a5 es → Calls Try.prog 73 #[.agg #[.int .i64 (N : Int), .slice a1 xs.length c1], .slice a5 k c5] W fun e w' => ∃ a' cap' zs, e = .returned (.agg #[.int .i64 (k : Int), .slice a' k cap']) ∧ zs.length = k ∧ OwnI w' W.heap.size (.slice a' k cap') zs ∧ Below W.heap.size W w') := fun W k hk h h2 => by
            have hl : (es.take k).length = k := by simp; omega
            have h3 : Rd W a5 (es.take k) := ⟨by rw [hl]; have := h2.len; omega, fun j hj => by
              rw [hl] at hj
              obtain ⟨b, off, e1, e2, e3⟩ := h2.cell j (by omega)
              exact ⟨b, off, e1, e2, by rw [e3]; simp [nth, hj]⟩⟩
            have := orPart_any (N : Int) a1 xs c1 a5 (es.take k) c5 W h (fun j hj => ⟨hrp.out.pos j hj, hrp.out.small j hj⟩) h3 ⟨by omega, fun j hj => by
              rw [hl] at hj
              have := okN_elem ((permB_iff.1 hpm).2 j (by omega))
              obtain ⟨i, hi⟩ := Int.eq_ofNat_of_zero_le this.1
              exact ⟨i, by omega, by rw [← hi]; simp [nth, hj]⟩⟩
            rw [hl] at this
            refine this.mono ?_
            rintro e w' ⟨a', c', rfl, ho, hb⟩
            exact ⟨a', c', _, rfl, parts_len _ _ _, ho, hb⟩
          clear hpm
          have hcp5 := HN.out.capLe
          have ⟨⟨zB, cB, dB⟩, fB, gB⟩ := HK.out.bx
          go_wp2_with fail
          go_region_held3 (fun w' => w'.cell? ⟨w1.heap.size, 0, none⟩ = some (.int .i64 (N : Int)) ∧ w'.cell? ⟨w1.heap.size, 1, none⟩ = some (.slice a1 xs.length c1))
            (first | exact ⟨Q6.1.2.1, Q6.1.2.2⟩ | exact ⟨Q5.1.2.1, Q5.1.2.2⟩ | exact ⟨Q4.1.2.1, Q4.1.2.2⟩ | exact ⟨QA.1.2.1, QA.1.2.2⟩ | go_keep)
            (first
              | (have _g := hk5; go_at_call 73; refine (HPA.out _ k hk5 (by first | exact KA.out.r.rd | exact KA.out.r.rd.below (Joins.below_draws _ _ _)) (by first | exact NA.out.rd | exact NA.out.rd.below (Joins.below_draws _ _ _))).mono ?_; rintro e w7 ⟨a7, c7, zs, rfl, hzl, ho7, hb7⟩; have K5 : FndK w (N : Int) a1 c1 xs w1.heap.size w7 1104 := (by first | exact KA.out.below hb7 | exact (KA.out.below (Joins.below_draws _ _ _)).below hb7); have Q4 := K5.bx; have Q5 := (Q4.other (p := ⟨w.heap.size, 0, none⟩) (.int .i64 (N : Int)) (show w1.heap.size ≠ w.heap.size by omega)).other (p := ⟨w.heap.size, 1, none⟩) (.slice a1 xs.length c1) (show w1.heap.size ≠ w.heap.size by omega); have Q6 := (Q5.other (p := ⟨w.heap.size + 1, 0, none⟩) (.int .i64 (k : Int)) (show w1.heap.size ≠ w.heap.size + 1 by omega)).other (p := ⟨w.heap.size + 1, 1, none⟩) (.slice a7 k c7) (show w1.heap.size ≠ w.heap.size + 1 by omega); have vO := K5.o; have ⟨⟨zO, cO, dO⟩, fO, gO⟩ := vO; have vZ := K5.z; have ⟨⟨zZ, cZ, dZ⟩, fZ, gZ⟩ := vZ; have ho8 : OwnI w7 (w.heap.size + 3) (.slice a7 k c7) zs := ho7.mono (by have := KA.out.s; simp; omega))
              | (have _g := KA; go_at_call 74; refine (l1Least_any r (N : Int) _).mono ?_; rintro e w' ⟨rfl, rfl⟩; obtain ⟨k, hk⟩ : ∃ k : Nat, min r (N : Int) = (k : Int) := ⟨(min r (N : Int)).toNat, (by omega)⟩; rw [hk]; have hk5 : k ≤ es.length := (by omega); have hkc : (k : Int) ≤ (c5 : Int) := (by omega); have hk12 : k ≤ 12 := (by omega); clear hk)
              | (go_at_call 75; refine (pick_any (w.heap.size + 2) 1102 5 _ (HK.out.below (Joins.below_draws _ _ _)).cu (by omega) (by omega)).mono ?_; rintro e wa ⟨r, rfl, hr0, hr1, hca, hda⟩; have KA := Lib.hid ((HK.out.below (Joins.below_draws _ _ _)).drawn hda hca); have NA := Lib.hid ((HN.out.below (Joins.below_draws _ _ _) (Nat.le_refl _)).drawn hda (by omega)); have QA := KA.out.bx; clear hca hda))
          all_goals
            go_wp2_with fail
            obtain rfl : k = zs.length := hzl.symm
            have hE := oo_end (m := (zs.length : Int)) K5 hl1 ho8 (by omega)
            generalize ((((w7.setCell ⟨w.heap.size, 0, none⟩ (.int .i64 (N : Int))).setCell ⟨w.heap.size, 1, none⟩ (.slice a1 xs.length c1)).setCell ⟨w.heap.size + 1, 0, none⟩ (.int .i64 (zs.length : Int))).setCell ⟨w.heap.size + 1, 1, none⟩ (.slice a7 zs.length c7)) = WE at hE ⊢
            obtain ⟨⟨R3, R4⟩, hD⟩ := hE (by omega) (by omega)
            refine bodyPost_ret (v := .tuple #[.agg #[.int .i64 (N : Int), .slice a1 xs.length c1], .agg #[.int .i64 (zs.length : Int), .slice a7 zs.length c7]]) (by have ⟨⟨_, q1, q2⟩, _, _⟩ := R3; have ⟨⟨_, q3, q4⟩, _, _⟩ := R4; simp [results, Try.results10, go_sem, q1, q2, q3, q4]) rfl ?_
            exact hD
      · 
        have ⟨⟨zB, cB, dB⟩, fB, gB⟩ := HK.out.bx
        go_wp2_with fail
        go_region_held3 (fun w' => w'.cell? ⟨w1.heap.size, 0, none⟩ = some (.int .i64 n1) ∧ w'.cell? ⟨w1.heap.size, 1, none⟩ = some (.slice a1 xs.length c1))
          (first | exact ⟨Q6.1.2.1, Q6.1.2.2⟩ | exact ⟨Q5.1.2.1, Q5.1.2.2⟩ | exact ⟨Q4.1.2.1, Q4.1.2.2⟩ | go_keep)
          (first | (go_at_call 68; refine (anyOrder_any (w.heap.size + 2) 1002 5 _ (HK.out.below (Joins.below_draws _ _ _)).cu (by omega) (by omega)).mono ?_; rintro e w5 ⟨m5, a5, c5, ys, rfl, ho5, hl5, h05, h15, hx5, hc5, hd5⟩; have K5 := (HK.out.below (Joins.below_draws _ _ _)).drawn hd5 hc5; have Q4 := K5.bx; have Q5 := (Q4.other (p := ⟨w.heap.size, 0, none⟩) (.int .i64 n1) (show w1.heap.size ≠ w.heap.size by omega)).other (p := ⟨w.heap.size, 1, none⟩) (.slice a1 xs.length c1) (show w1.heap.size ≠ w.heap.size by omega); have Q6 := (Q5.other (p := ⟨w.heap.size + 1, 0, none⟩) (.int .i64 m5) (show w1.heap.size ≠ w.heap.size + 1 by omega)).other (p := ⟨w.heap.size + 1, 1, none⟩) (.slice a5 ys.length c5) (show w1.heap.size ≠ w.heap.size + 1 by omega); have vO := K5.o; have ⟨⟨zO, cO, dO⟩, fO, gO⟩ := vO; have vZ := K5.z; have ⟨⟨zZ, cZ, dZ⟩, fZ, gZ⟩ := vZ; have ho6 : OwnI w5 (w.heap.size + 3) (.slice a5 ys.length c5) ys := ho5.mono (by have := HK.out.s; simp; omega)))
        go_wp2_with fail
        have hE := oo_end (m := m5) K5 hl1 ho6 (by omega)
        generalize ((((w5.setCell ⟨w.heap.size, 0, none⟩ (.int .i64 n1)).setCell ⟨w.heap.size, 1, none⟩ (.slice a1 xs.length c1)).setCell ⟨w.heap.size + 1, 0, none⟩ (.int .i64 m5)).setCell ⟨w.heap.size + 1, 1, none⟩ (.slice a5 ys.length c5)) = WE at hE ⊢
        obtain ⟨⟨R3, R4⟩, hD⟩ := hE (by omega) (by omega)
        refine bodyPost_ret (v := .tuple #[.agg #[.int .i64 n1, .slice a1 xs.length c1], .agg #[.int .i64 m5, .slice a5 ys.length c5]]) (by have ⟨⟨_, q1, q2⟩, _, _⟩ := R3; have ⟨⟨_, q3, q4⟩, _, _⟩ := R4; simp [results, Try.results10, go_sem, q1, q2, q3, q4]) rfl ?_
        exact hD
    · 
      have ⟨⟨zB, cB, dB⟩, fB, gB⟩ := HK.out.bx
      go_wp2_with fail
      go_region_held3 (fun w' => w'.cell? ⟨w1.heap.size, 0, none⟩ = some (.int .i64 n1) ∧ w'.cell? ⟨w1.heap.size, 1, none⟩ = some (.slice a1 xs.length c1))
        (first | exact ⟨Q6.1.2.1, Q6.1.2.2⟩ | exact ⟨Q5.1.2.1, Q5.1.2.2⟩ | exact ⟨Q4.1.2.1, Q4.1.2.2⟩ | go_keep)
        (first | (go_at_call 68; refine (anyOrder_any (w.heap.size + 2) 1000 5 _ (HK.out.below (Joins.below_draws _ _ _)).cu (by omega) (by omega)).mono ?_; rintro e w5 ⟨m5, a5, c5, ys, rfl, ho5, hl5, h05, h15, hx5, hc5, hd5⟩; have K5 := (HK.out.below (Joins.below_draws _ _ _)).drawn hd5 hc5; have Q4 := K5.bx; have Q5 := (Q4.other (p := ⟨w.heap.size, 0, none⟩) (.int .i64 n1) (show w1.heap.size ≠ w.heap.size by omega)).other (p := ⟨w.heap.size, 1, none⟩) (.slice a1 xs.length c1) (show w1.heap.size ≠ w.heap.size by omega); have Q6 := (Q5.other (p := ⟨w.heap.size + 1, 0, none⟩) (.int .i64 m5) (show w1.heap.size ≠ w.heap.size + 1 by omega)).other (p := ⟨w.heap.size + 1, 1, none⟩) (.slice a5 ys.length c5) (show w1.heap.size ≠ w.heap.size + 1 by omega); have vO := K5.o; have ⟨⟨zO, cO, dO⟩, fO, gO⟩ := vO; have vZ := K5.z; have ⟨⟨zZ, cZ, dZ⟩, fZ, gZ⟩ := vZ; have ho6 : OwnI w5 (w.heap.size + 3) (.slice a5 ys.length c5) ys := ho5.mono (by have := HK.out.s; simp; omega)))
      go_wp2_with fail
      have hE := oo_end (m := m5) K5 hl1 ho6 (by omega)
      generalize ((((w5.setCell ⟨w.heap.size, 0, none⟩ (.int .i64 n1)).setCell ⟨w.heap.size, 1, none⟩ (.slice a1 xs.length c1)).setCell ⟨w.heap.size + 1, 0, none⟩ (.int .i64 m5)).setCell ⟨w.heap.size + 1, 1, none⟩ (.slice a5 ys.length c5)) = WE at hE ⊢
      obtain ⟨⟨R3, R4⟩, hD⟩ := hE (by omega) (by omega)
      refine bodyPost_ret (v := .tuple #[.agg #[.int .i64 n1, .slice a1 xs.length c1], .agg #[.int .i64 m5, .slice a5 ys.length c5]]) (by have ⟨⟨_, q1, q2⟩, _, _⟩ := R3; have ⟨⟨_, q3, q4⟩, _, _⟩ := R4; simp [results, Try.results10, go_sem, q1, q2, q3, q4]) rfl ?_
      exact hD

def maxI (a b : Int) : Int := if b < a then a else b
theorem l1Most_any (a b : Int) (w : World) : Calls Try.prog 79 #[.int .i64 a, .int .i64 b] w fun e w' => e = .returned (.int .i64 (maxI a b)) ∧ w = w' := by
  by_cases h : b < a
  · have H : Hid (maxI a b = a) := by rw [Hid, maxI, if_pos h]
    go_enter Try.func79, Try.ntmps79
    go_wp2
    go_ret
    exact ⟨ret_int H.out.symm, rfl⟩
  · have H : Hid (maxI a b = b) := by rw [Hid, maxI, if_neg h]
    go_enter Try.func79, Try.ntmps79
    go_wp2
    go_ret
    exact ⟨ret_int H.out.symm, rfl⟩

end Go.Proofs.Ytkpfjemlldiogaa.patterns
