/- PROVED: the law FnExactCountBiorders returns true for every input, and each of its arguments reads afterwards as before. No conditions. -/
import Derived.Test.YtcfhhchkhlgjkaaRows
import Derived.WalkKit
import Derived.WalkSpells
import Derived.WalkLawsBesides
import Derived.Deep.QuietTactic
import Derived.BigQuiet
import Derived.ProofKit
import Derived.OpenShut
import Derived.ShutString
import Derived.ChangeOld
import Derived.Below
import Derived.Lib.SmallJoins
import Derived.Lib.Hide
import Derived.Deep.RegionHeld3
namespace Go.Proofs.Ytcfhhchkhlgjkaa.countBiorders
open Go Go.RowKit
set_option linter.unusedVariables false
set_option linter.unusedSimpArgs false
set_option maxHeartbeats 400000


/-- a number of a list; a plain function, which the walk leaves alone -/
def nth (xs : List Int) (k : Nat) : Int := xs.getD k 0
theorem nth_get (xs : List Int) (k : Nat) (h : k < xs.length) : nth xs k = xs[k] := by simp [nth, h]
/-- the slice at an address reads as a list -/
structure Rd (w : World) (a : Option Addr) (xs : List Int) : Prop where
  len : xs.length ≤ 9223372036854775807
  cell : ∀ k, k < xs.length → ∃ b off, a = some ⟨b, off, none⟩ ∧ b < w.heap.size ∧ w.cell? ⟨b, off + k, none⟩ = some (.int .i64 (nth xs k))
theorem Rd.below {w w' : World} {a : Option Addr} {xs : List Int} (h : Rd w a xs) (hb : Below w.heap.size w w') : Rd w' a xs :=
  ⟨h.len, fun k hk => by
    obtain ⟨b, off, e, hl, hc⟩ := h.cell k hk
    exact ⟨b, off, e, Nat.lt_of_lt_of_le hl hb.size, (hb.cell (World.block_lt_of_cell? _ _ hc)).trans hc⟩⟩
theorem Rd.mid {w w1 w2 : World} {a : Option Addr} {xs : List Int} {B : Nat} (h : Rd w a xs) (hb : Below B w1 w2) (hB : w.heap.size ≤ B) (h1 : Rd w1 a xs) : Rd w2 a xs :=
  ⟨h.len, fun k hk => by
    obtain ⟨b, off, e, hl, hc⟩ := h.cell k hk
    obtain ⟨b', off', e', hl', hc'⟩ := h1.cell k hk
    rw [e] at e'
    simp only [Option.some.injEq, Addr.mk.injEq, and_true] at e'
    obtain ⟨rfl, rfl⟩ := e'
    exact ⟨b, off, e, Nat.lt_of_lt_of_le hl' hb.size, (hb.cell (by show b < B; omega)).trans hc'⟩⟩
theorem Rd.alloc {w : World} {a : Option Addr} {xs : List Int} (h : Rd w a xs) (o : Obj) : Rd (w.alloc o) a xs :=
  h.below ((Below.refl _ _).alloc (Nat.le_refl _) o)
theorem Rd.same {w w' : World} {a : Option Addr} {xs : List Int} (h : Rd w a xs) (hs : w.heap.size ≤ w'.heap.size)
    (hb : ∀ b off, a = some ⟨b, off, none⟩ → w'.heap[b]? = w.heap[b]?) : Rd w' a xs :=
  ⟨h.len, fun k hk => by
    obtain ⟨b, off, e, hl, hc⟩ := h.cell k hk
    exact ⟨b, off, e, Nat.lt_of_lt_of_le hl hs, (World.cell?_of_block (w := w) (a := ⟨b, off + k, none⟩) (hb b off e)).trans hc⟩⟩
/-- a slice value that owns the row of these integers, in a block from B on -/
def OwnI (w : World) (B : Nat) (v : Value) (xs : List Int) : Prop := w.ownsRow B 3 1 v xs.length (xs.map (Value.int .i64))
theorem OwnI.form {w : World} {B : Nat} {v : Value} {xs : List Int} (h : OwnI w B v xs) : ∃ a cap, v = .slice a xs.length cap := by
  rcases h.2 with ⟨rfl, h0⟩ | ⟨g, cap, cur, rfl, _⟩
  · exact ⟨none, 0, by rw [h0]⟩
  · exact ⟨_, _, rfl⟩
theorem OwnI.rd {w : World} {B n cap : Nat} {a : Option Addr} {xs : List Int} (h : OwnI w B (.slice a n cap) xs) : Rd w a xs := by
  rcases h.2 with ⟨e, h0⟩ | ⟨g, cap', cur, e, hb, hg, hn, hm, hs, ht⟩
  · exact ⟨by omega, fun k hk => by omega⟩
  · simp only [Value.slice.injEq] at e
    obtain ⟨rfl, rfl, rfl⟩ := e
    refine ⟨by unfold maxLen at hm; omega, fun k hk => ⟨g, 0, rfl, (Array.getElem?_eq_some_iff.1 hg).1, ?_⟩⟩
    have := World.ownsRow.cellAt h k (by omega)
    rw [Nat.zero_add, this]
    simp [nth, hk]
theorem OwnI.blk {w : World} {B n cap : Nat} {a : Option Addr} {xs : List Int} (h : OwnI w B (.slice a n cap) xs) : ∀ b off s, a = some ⟨b, off, s⟩ → B ≤ b ∧ b < w.heap.size := by
  intro b off s e
  subst e
  exact World.ownsRow.lt h b rfl
theorem OwnI.kept {w w' : World} {B : Nat} {v : Value} {xs : List Int} {row : Option Nat} (h : OwnI w B v xs) (hg : w.grownBy w' row) (hne : v.ownBlock = none ∨ v.ownBlock ≠ row) : OwnI w' B v xs := World.ownsRow.kept h hg hne
theorem OwnI.mono {w : World} {B B' : Nat} {v : Value} {xs : List Int} (h : OwnI w B v xs) (hB : B' ≤ B) : OwnI w B' v xs := by
  refine ⟨h.1, ?_⟩
  rcases h.2 with hn | ⟨g, cap, cur, e, hb, rest⟩
  · exact .inl hn
  · exact .inr ⟨g, cap, cur, e, by omega, rest⟩
theorem OwnI.below {w w' : World} {B B' : Nat} {v : Value} {xs : List Int} (h : OwnI w B v xs) (hb : Below B' w w') (hB : w.heap.size ≤ B') : OwnI w' B v xs := by
  refine ⟨h.1, ?_⟩
  rcases h.2 with hn | ⟨g, cap, cur, e, hb', hg, rest⟩
  · exact .inl hn
  · refine .inr ⟨g, cap, cur, e, hb', ?_, rest⟩
    rw [hb.block g (by have := (Array.getElem?_eq_some_iff.1 hg).1; omega)]
    exact hg
theorem ret_bool {a b : Bool} (h : a = b) : Ending.returned (.bool a) = .returned (.bool b) := by rw [h]
theorem ret_int {a b : Int} (h : a = b) : Ending.returned (.int .i64 a) = .returned (.int .i64 b) := by rw [h]
theorem val_int {a b : Int} (h : a = b) : Value.int .i64 a = .int .i64 b := by rw [h]
theorem grown_below {w w' : World} {g : Nat} (h : w.grownBy w' (some g)) (B : Nat) (hB : B ≤ g) (hs : B ≤ w.heap.size) : Below B w w' :=
  ⟨h.os, h.tape, h.output, h.size, fun k hk => h.block k (by omega) (by intro e; simp only [Option.some.injEq] at e; omega)⟩
theorem below_grown {w w' : World} {B : Nat} (h : Below B w w') (hB : w.heap.size ≤ B) (row : Option Nat) : w.grownBy w' row :=
  ⟨h.os, h.tape, h.output, h.size, fun k hk _ => h.block k (by omega)⟩
theorem bcell {W w1 : World} (hb : Below W.heap.size W w1) : (∀ b o, b < W.heap.size → w1.cell? ⟨b, o, none⟩ = W.cell? ⟨b, o, none⟩) ∧ (∀ b o, b < W.heap.size → w1.frozen? ⟨b, o, none⟩ = W.frozen? ⟨b, o, none⟩) :=
  ⟨fun b o h => hb.cell (p := ⟨b, o, none⟩) h, fun b o h => hb.frozen (p := ⟨b, o, none⟩) h⟩
theorem infoInt : (Try.prog.info? 3).map (fun i => (i.zero, i.size, i.bytes)) = some (some (.int .i64 0), 1, 8) := by kernel_rfl
theorem OwnI.setBelow {w : World} {B : Nat} {v : Value} {xs : List Int} (h : OwnI w B v xs) {p : Addr} (hp : p.block < B) (u : Value) : OwnI (w.setCell p u) B v xs := ownsRow_setCell_below h hp u
theorem OwnI.alloc {w : World} {B : Nat} {v : Value} {xs : List Int} (h : OwnI w B v xs) (o : Obj) : OwnI (w.alloc o) B v xs := h.below ((Below.refl _ _).alloc (Nat.le_refl _) o) (Nat.le_refl _)
theorem Below.mono' {B B' : Nat} {w w' : World} (h : Below B w w') (hB : B' ≤ B) : Below B' w w' := h.mono hB
/-- a block that holds two cells -/
def Box2 (w : World) (b : Nat) (u v : Value) : Prop := b < w.heap.size ∧ w.cell? ⟨b, 0, none⟩ = some u ∧ w.cell? ⟨b, 1, none⟩ = some v
theorem Box2.below {w w' : World} {b : Nat} {u v : Value} (h : Box2 w b u v) (hb : Below w.heap.size w w') : Box2 w' b u v :=
  ⟨Nat.lt_of_lt_of_le h.1 hb.size, (hb.cell (p := ⟨b, 0, none⟩) h.1).trans h.2.1, (hb.cell (p := ⟨b, 1, none⟩) h.1).trans h.2.2⟩
theorem Box2.new (w : World) (u v : Value) (t : TypeId) : Box2 (w.alloc (.cells #[u, v] t)) w.heap.size u v :=
  ⟨by simp, by simp, by simp⟩
theorem Box2.kept {w w' : World} {b : Nat} {u v : Value} {row : Option Nat} (h : Box2 w b u v) (hg : w.grownBy w' row) (hne : some b ≠ row) : Box2 w' b u v :=
  ⟨Nat.lt_of_lt_of_le h.1 hg.size, hg.cell h.2.1 hne, hg.cell h.2.2 hne⟩
theorem OwnI.lt {w : World} {B : Nat} {v : Value} {xs : List Int} (h : OwnI w B v xs) : ∀ b, v.ownBlock = some b → B ≤ b ∧ b < w.heap.size := World.ownsRow.lt h
theorem OwnI.cut {w : World} {B : Nat} {v : Value} {xs : List Int} (h : OwnI w B v xs) {U : Nat} (hU : w.heap.size ≤ U) : ∀ b, v.ownBlock = some b → B ≤ b ∧ b < U := fun b e => ⟨(h.lt b e).1, Nat.lt_of_lt_of_le (h.lt b e).2 hU⟩
/-- a block of two cells that may be written -/
def Var2 (w : World) (b : Nat) (u v : Value) : Prop := Box2 w b u v ∧ w.frozen? ⟨b, 0, none⟩ = false ∧ w.frozen? ⟨b, 1, none⟩ = false
theorem Var2.below {w w' : World} {b : Nat} {u v : Value} (h : Var2 w b u v) (hb : Below w.heap.size w w') : Var2 w' b u v :=
  ⟨h.1.below hb, (hb.frozen (p := ⟨b, 0, none⟩) h.1.1).trans h.2.1, (hb.frozen (p := ⟨b, 1, none⟩) h.1.1).trans h.2.2⟩
theorem Var2.new (w : World) (u v : Value) (t : TypeId) : Var2 (w.alloc (.cells #[u, v] t)) w.heap.size u v :=
  ⟨Box2.new w u v t, by simp, by simp⟩
theorem Var2.alloc {w : World} {b : Nat} {u v : Value} (h : Var2 w b u v) (o : Obj) : Var2 (w.alloc o) b u v := h.below ((Below.refl _ _).alloc (Nat.le_refl _) o)
theorem Var2.kept {w w' : World} {b : Nat} {u v : Value} {row : Option Nat} (h : Var2 w b u v) (hg : w.grownBy w' row) (hne : some b ≠ row) : Var2 w' b u v :=
  ⟨h.1.kept hg hne, (World.frozen?_of_block (w := w) (a := ⟨b, 0, none⟩) (hg.block b h.1.1 hne)).trans h.2.1, (World.frozen?_of_block (w := w) (a := ⟨b, 1, none⟩) (hg.block b h.1.1 hne)).trans h.2.2⟩
theorem Var2.set {w : World} {b : Nat} {u v : Value} (h : Var2 w b u v) (u' v' : Value) : Var2 ((w.setCell ⟨b, 0, none⟩ u').setCell ⟨b, 1, none⟩ v') b u' v' := by
  refine ⟨⟨by simpa using h.1.1, ?_, ?_⟩, by simpa using h.2.1, by simpa using h.2.2⟩
  · rw [World.cell?_setCell_other _ _ _ _ (by simp), World.cell?_setCell_same _ _ _ h.1.2.1]
  · rw [World.cell?_setCell_same _ _ _ (u := v) (by rw [World.cell?_setCell_other _ _ _ _ (by simp)]; exact h.1.2.2)]
theorem grown_set (w : World) (p : Addr) (u : Value) : w.grownBy (w.setCell p u) (some p.block) :=
  ⟨rfl, rfl, rfl, by simp, fun k hk hn => Below.heap_setCell w p u k (fun e => hn (by rw [e]))⟩
theorem Var2.set1 {w : World} {b : Nat} {u v : Value} (h : Var2 w b u v) (v' : Value) : Var2 (w.setCell ⟨b, 1, none⟩ v') b u v' := by
  refine ⟨⟨by simpa using h.1.1, ?_, ?_⟩, by simpa using h.2.1, by simpa using h.2.2⟩
  · rw [World.cell?_setCell_other _ _ _ _ (by simp)]; exact h.1.2.1
  · rw [World.cell?_setCell_same _ _ _ h.1.2.2]
theorem Box2.set {w : World} {b : Nat} {u v : Value} (h : Box2 w b u v) {p : Addr} (x : Value) (hne : b ≠ p.block) : Box2 (w.setCell p x) b u v :=
  h.kept (grown_set w p x) (by simpa using hne)
theorem Var2.other {w : World} {b : Nat} {u v : Value} (h : Var2 w b u v) {p : Addr} (x : Value) (hne : b ≠ p.block) : Var2 (w.setCell p x) b u v :=
  h.kept (grown_set w p x) (by simpa using hne)
theorem ne_own {v : Value} {b : Nat} (h : ∀ c, v.ownBlock = some c → c ≠ b) : some b ≠ v.ownBlock := fun e => h b e.symm rfl
theorem grown_alloc_set {w w1 : World} {r : Option Nat} {o : Obj} (h : (w.alloc o).grownBy w1 r) : w.grownBy w1 r :=
  ⟨h.os, h.tape, h.output, by have := h.size; simp at this; omega, fun k hk hn => (h.block k (by simp; omega) hn).trans (Below.heap_alloc w o k hk)⟩
theorem grown_trans {w w1 w2 : World} {r : Option Nat} (h1 : w.grownBy w1 r) (h2 : w1.grownBy w2 r) : w.grownBy w2 r :=
  ⟨h2.os.trans h1.os, h2.tape.trans h1.tape, h2.output.trans h1.output, Nat.le_trans h1.size h2.size, fun k hk hn => (h2.block k (by have := h1.size; omega) hn).trans (h1.block k hk hn)⟩
theorem OwnI.nil (w : World) (B : Nat) : OwnI w B (.slice none 0 0) [] := World.ownsRow_nil _ _ _ _
theorem below_of_grown {w w' : World} {v : Value} {B : Nat} (hg : w.grownBy w' v.ownBlock) (hB : ∀ b, v.ownBlock = some b → B ≤ b) (hs : B ≤ w.heap.size) : Below B w w' :=
  ⟨hg.os, hg.tape, hg.output, hg.size, fun k hk => hg.block k (by omega) (fun e => by have := hB k e.symm; omega)⟩

def inB (n lo hi : Int) : Bool := decide (lo ≤ n) && decide (n ≤ hi)
theorem inB_iff {n lo hi : Int} : inB n lo hi = true ↔ lo ≤ n ∧ n ≤ hi := by simp [inB]
theorem inB_no {n lo hi : Int} : inB n lo hi = false ↔ n < lo ∨ hi < n := by
  rw [← Bool.not_eq_true, inB_iff]
  omega

def allB (xs : List Int) (lo hi : Int) : Bool := xs.all (fun x => inB x lo hi)
theorem allB_take (xs : List Int) (lo hi : Int) (k : Nat) (h : k < xs.length) : allB (xs.take (k+1)) lo hi = (allB (xs.take k) lo hi && inB (nth xs k) lo hi) := by
  simp only [allB]
  rw [List.take_succ_eq_append_getElem h, List.all_append]
  simp [nth, h]
theorem allB_false {xs : List Int} {lo hi : Int} {k : Nat} (h : k < xs.length) (h1 : inB (nth xs k) lo hi = false) : allB xs lo hi = false := by
  simp only [allB, List.all_eq_false]
  exact ⟨xs[k], List.getElem_mem h, by simpa [nth, h] using h1⟩
theorem allB_nth {xs : List Int} {lo hi : Int} (h : allB xs lo hi = true) {k : Nat} (hk : k < xs.length) : lo ≤ nth xs k ∧ nth xs k ≤ hi := by
  simp only [allB, List.all_eq_true] at h
  have := inB_iff.1 (h _ (List.getElem_mem hk))
  rwa [← nth_get xs k hk] at this

def memB (es : List Int) (i : Int) : Bool := (List.range es.length).any (fun k => nth es k == i)
theorem memB_iff {es : List Int} {i : Int} : memB es i = true ↔ ∃ k, k < es.length ∧ nth es k = i := by simp [memB]
theorem l1Has_any (a : Option Addr) (es : List Int) (cap : Nat) (i : Int) (w : World) (hx : Rd w a es) :
    Calls Try.prog 81 #[.slice a es.length cap, .int .i64 i] w fun e w' => e = .returned (.bool (memB es i)) ∧ w = w' := by
  have hlen := hx.len
  go_enter Try.func81, Try.ntmps81
  go_wp2_with fail
  go_loop [9] (fun i' => ∃ k : Nat, k ≤ es.length ∧ i' = .int .i64 k ∧ ∀ j, j < k → nth es j ≠ i) (fun i' => es.length - (intOf i').toNat)
  case atStart => exact ⟨0, Nat.zero_le _, rfl, fun j hj => by omega⟩
  case round =>
    obtain ⟨k, hk, rfl, hall⟩ := hrel
    have HA := Lib.hid hall
    clear hall
    by_cases hlt : k < es.length
    · obtain ⟨b, off, rfl, hbl, hc⟩ := hx.cell k hlt
      cases he : (nth es k == i)
      · have HE := Lib.hid (by simpa using he : nth es k ≠ i)
        go_wp2_with fail
        go_round
        case rel =>
          refine ⟨k + 1, by omega, by go_num, fun j hj => ?_⟩
          by_cases e : j = k
          · rw [e]; exact HE.out
          · exact HA.out j (by omega)
        case measure => simp [intOf]; omega
      · have HM := Lib.hid (memB_iff.2 ⟨k, hlt, by simpa using he⟩)
        go_wp2_with fail
        go_ret
        exact ⟨ret_bool HM.out.symm, rfl⟩
    · obtain rfl : k = es.length := by omega
      have HM : Hid (memB es i = false) := by
        rw [Hid, ← Bool.not_eq_true, memB_iff]
        rintro ⟨j, hj, e⟩
        exact HA.out j hj e
      go_wp2_with fail
      go_ret
      exact ⟨ret_bool HM.out.symm, rfl⟩

/-- is it a relation? -/
def relB (n : Int) (xs : List Int) : Bool := inB n 0 10 && decide ((xs.length : Int) = n) && allB xs 0 (2 ^ n.toNat - 1)
theorem relB_iff {n : Int} {xs : List Int} : relB n xs = true ↔ (0 ≤ n ∧ n ≤ 10) ∧ (xs.length : Int) = n ∧ allB xs 0 (2 ^ n.toNat - 1) = true := by
  simp [relB, inB_iff, and_assoc]
theorem pow10 {n : Nat} (h : n ≤ 10) : (1 : Int) ≤ 2 ^ n ∧ (2 : Int) ^ n ≤ 1024 := by
  have h1 : 2 ^ n ≤ 2 ^ 10 := Nat.pow_le_pow_right (by omega) h
  have h2 : 1 ≤ 2 ^ n := Nat.one_le_two_pow
  have h3 : ((2 ^ n : Nat) : Int) = (2 : Int) ^ n := by simp
  omega
theorem full_eq {n : Int} (h0 : 0 ≤ n) (h1 : n ≤ 10) : wrap64 (wrap64 (2 ^ n.toNat) - 1) = 2 ^ n.toNat - 1 := by
  have h2 := pow10 (n := n.toNat) (by omega)
  generalize (2 : Int) ^ n.toNat = p at *
  rw [IntWalk.wrap64_in p ⟨by omega, by omega⟩, IntWalk.wrap64_in _ ⟨by omega, by omega⟩]
structure RelP (n : Int) (xs : List Int) : Prop where
  n0 : 0 ≤ n
  n1 : n ≤ 10
  len : (xs.length : Int) = n
  pos : ∀ k, k < xs.length → 0 ≤ nth xs k
  lt : ∀ k, k < xs.length → nth xs k < 2 ^ xs.length
  small : ∀ k, k < xs.length → nth xs k < 1024
theorem relB_p {n : Int} {xs : List Int} (h : relB n xs = true) : RelP n xs := by
  obtain ⟨⟨h0, h1⟩, h2, h3⟩ := relB_iff.1 h
  have e : n.toNat = xs.length := by omega
  rw [e] at h3
  have hp := pow10 (n := xs.length) (by omega)
  exact ⟨h0, h1, h2, fun k hk => (allB_nth h3 hk).1, fun k hk => by have := (allB_nth h3 hk).2; omega, fun k hk => by have := (allB_nth h3 hk).2; omega⟩

theorem wrap64_small (n : Int) (h0 : -9223372036854775808 ≤ n) (h1 : n ≤ 9223372036854775807) : IntKind.i64.wrap n = n := by
  simp only [IntKind.wrap, IntKind.bits, IntKind.signed]
  simp
  omega
theorem i64_wrap (n : Int) : IntKind.i64.wrap n = wrap64 n := IntWalk.i64_left n
theorem ofInt_i64 (a : Nat) (ha : a < 9223372036854775808) : (BitVec.ofInt 64 (a : Int)).toNat = a := by
  simp
  omega
theorem and_nat (a b : Nat) (ha : a < 9223372036854775808) (hb : b < 9223372036854775808) : bits .and .i64 (a : Int) (b : Int) = ((a &&& b : Nat) : Int) := by
  have hx : a &&& b < 2 ^ 63 := Nat.and_lt_two_pow _ (by omega)
  show IntKind.i64.wrap ((BitVec.ofInt 64 (a : Int) &&& BitVec.ofInt 64 (b : Int)).toNat : Int) = _
  rw [BitVec.toNat_and, ofInt_i64 a ha, ofInt_i64 b hb, wrap64_small _ (by omega) (by omega)]
theorem or_nat (a b : Nat) (ha : a < 9223372036854775808) (hb : b < 9223372036854775808) : bits .or .i64 (a : Int) (b : Int) = ((a ||| b : Nat) : Int) := by
  have hx : a ||| b < 2 ^ 63 := Nat.or_lt_two_pow (by omega) (by omega)
  show IntKind.i64.wrap ((BitVec.ofInt 64 (a : Int) ||| BitVec.ofInt 64 (b : Int)).toNat : Int) = _
  rw [BitVec.toNat_or, ofInt_i64 a ha, ofInt_i64 b hb, wrap64_small _ (by omega) (by omega)]
/-- a set without the elements of another one -/
def sub (a b : Nat) : Nat := a ^^^ (a &&& b)
theorem testBit_sub (a b i : Nat) : (sub a b).testBit i = (a.testBit i && !b.testBit i) := by
  simp [sub, Nat.testBit_xor, Nat.testBit_and]
  cases a.testBit i <;> cases b.testBit i <;> rfl
theorem sub_lt {a b n : Nat} (h : a < 2 ^ n) : sub a b < 2 ^ n := by
  unfold sub
  exact Nat.xor_lt_two_pow h (by rw [Nat.and_comm]; exact Nat.and_lt_two_pow _ h)
theorem sub_nat (a b : Nat) (ha : a < 9223372036854775808) (hb : b < 9223372036854775808) : bits .andNot .i64 (a : Int) (b : Int) = ((sub a b : Nat) : Int) := by
  have hs : sub a b < 2 ^ 63 := sub_lt (by omega)
  show IntKind.i64.wrap ((BitVec.ofInt 64 (a : Int) &&& ~~~BitVec.ofInt 64 (b : Int)).toNat : Int) = _
  have e : (BitVec.ofInt 64 (a : Int) &&& ~~~BitVec.ofInt 64 (b : Int)).toNat = sub a b := by
    apply Nat.eq_of_testBit_eq
    intro i
    rw [BitVec.testBit_toNat, BitVec.getLsbD_and, BitVec.getLsbD_not, testBit_sub, ← BitVec.testBit_toNat, ← BitVec.testBit_toNat, ofInt_i64 a ha, ofInt_i64 b hb]
    by_cases hi : i < 64
    · simp [hi]
    · have : a.testBit i = false := Nat.testBit_lt_two_pow (Nat.lt_of_lt_of_le (by omega : a < 2 ^ 64) (Nat.pow_le_pow_right (by omega) (by omega)))
      simp [this]
  rw [e, wrap64_small _ (by omega) (by omega)]
theorem shr_nat (s i : Nat) (hs : s < 9223372036854775808) : (s : Int) / (2 ^ min i 64) = ((s >>> i : Nat) : Int) := by
  rw [Nat.shiftRight_eq_div_pow]
  by_cases h : i ≤ 64
  · rw [Nat.min_eq_left h]
    simp
  · rw [Nat.min_eq_right (by omega)]
    have : 2 ^ 64 ≤ 2 ^ i := Nat.pow_le_pow_right (by omega) (by omega)
    rw [Nat.div_eq_of_lt (by omega)]
    omega
theorem bit_and (s i : Nat) (hs : s < 9223372036854775808) : (bits .and .i64 ((s >>> i : Nat) : Int) 1 == 1) = s.testBit i := by
  have h1 : s >>> i ≤ s := by rw [Nat.shiftRight_eq_div_pow]; exact Nat.div_le_self _ _
  have := and_nat (s >>> i) 1 (by omega) (by omega)
  rw [show ((1 : Nat) : Int) = 1 from rfl] at this
  rw [this, Nat.testBit, Nat.and_one_is_mod, Nat.and_comm, Nat.and_one_is_mod]
  rcases Nat.mod_two_eq_zero_or_one (s >>> i) with h | h <;> simp [h]
theorem bit_mod (s i : Nat) : (((s >>> i : Nat) : Int) % 2 == 1) = s.testBit i := by
  rw [Nat.testBit, Nat.and_comm, Nat.and_one_is_mod]
  rcases Nat.mod_two_eq_zero_or_one (s >>> i) with h | h
  · have h2 : ((s >>> i : Nat) : Int) % 2 = 0 := by omega
    rw [h2, h]; rfl
  · have h2 : ((s >>> i : Nat) : Int) % 2 = 1 := by omega
    rw [h2, h]; rfl
theorem bit_tmod (s i : Nat) : (((s >>> i : Nat) : Int).tmod 2 == 1) = s.testBit i := by
  rw [Int.tmod_eq_emod_of_nonneg (Int.natCast_nonneg _), bit_mod]
/-- is i in the set s? -/
def hasB (s i : Int) : Bool := s.toNat.testBit i.toNat
theorem has_and {s i : Int} (h0 : 0 ≤ s) (h1 : s ≤ 9223372036854775807) (hi : 0 ≤ i) : (bits .and .i64 (s / 2 ^ min i.toNat 64) 1 == 1) = hasB s i := by
  obtain ⟨S, rfl⟩ := Int.eq_ofNat_of_zero_le h0
  rw [shr_nat S _ (by omega), bit_and S _ (by omega)]
  rfl
theorem has_mod {s i : Int} (h0 : 0 ≤ s) (h1 : s ≤ 9223372036854775807) (hi : 0 ≤ i) : ((s / 2 ^ min i.toNat 64).tmod 2 == 1) = hasB s i := by
  obtain ⟨S, rfl⟩ := Int.eq_ofNat_of_zero_le h0
  rw [shr_nat S _ (by omega), bit_tmod S]
  rfl
theorem pow_w {k : Nat} (h : k < 62) : wrap64 (2 ^ k) = ((2 ^ k : Nat) : Int) := by
  have : 2 ^ k ≤ 2 ^ 61 := Nat.pow_le_pow_right (by omega) (by omega)
  rw [show ((2:Int) ^ k) = ((2 ^ k : Nat) : Int) by simp]
  generalize hp : 2 ^ k = p at *
  exact IntWalk.wrap64_in _ ⟨by omega, by omega⟩
theorem or_bit {b k : Nat} (hb : b < 4611686018427387904) (hk : k < 62) : bits .or .i64 (b : Int) (wrap64 (2 ^ k)) = ((b ||| 2 ^ k : Nat) : Int) := by
  rw [pow_w hk]
  have : 2 ^ k ≤ 2 ^ 61 := Nat.pow_le_pow_right (by omega) (by omega)
  exact or_nat _ _ (by omega) (by omega)
theorem or_i {a b : Int} (ha : 0 ≤ a) (ha1 : a < 9223372036854775808) (hb : 0 ≤ b) (hb1 : b < 9223372036854775808) : bits .or .i64 a b = ((a.toNat ||| b.toNat : Nat) : Int) := by
  obtain ⟨A, rfl⟩ := Int.eq_ofNat_of_zero_le ha
  obtain ⟨B, rfl⟩ := Int.eq_ofNat_of_zero_le hb
  exact or_nat A B (by omega) (by omega)
theorem sub_i {a b : Int} (ha : 0 ≤ a) (ha1 : a < 9223372036854775808) (hb : 0 ≤ b) (hb1 : b < 9223372036854775808) : bits .andNot .i64 a b = ((sub a.toNat b.toNat : Nat) : Int) := by
  obtain ⟨A, rfl⟩ := Int.eq_ofNat_of_zero_le ha
  obtain ⟨B, rfl⟩ := Int.eq_ofNat_of_zero_le hb
  exact sub_nat A B (by omega) (by omega)
theorem or_lt {a b n : Nat} (ha : a < 2 ^ n) (hb : b < 2 ^ n) : a ||| b < 2 ^ n := Nat.or_lt_two_pow ha hb
theorem two_lt {k n : Nat} (h : k < n) : 2 ^ k < 2 ^ n := Nat.pow_lt_pow_right (by omega) h
theorem testBit_two (k i : Nat) : (2 ^ k).testBit i = decide (k = i) := Nat.testBit_two_pow

/-- the elements of a set that are less than k, in order -/
def elemsTo (s : Nat) : Nat → List Int
  | 0 => []
  | k+1 => if s.testBit k then elemsTo s k ++ [(k : Int)] else elemsTo s k
theorem elemsTo_len (s : Nat) : ∀ k, (elemsTo s k).length ≤ k
  | 0 => by simp [elemsTo]
  | k+1 => by
    have := elemsTo_len s k
    simp only [elemsTo]
    split <;> simp <;> omega
theorem mem_elemsTo (s : Nat) (x : Int) : ∀ k, x ∈ elemsTo s k ↔ ∃ i : Nat, i < k ∧ s.testBit i = true ∧ x = i
  | 0 => by simp [elemsTo]
  | k+1 => by
    have ih := mem_elemsTo s x k
    simp only [elemsTo]
    cases hb : s.testBit k
    · rw [if_neg (by simp), ih]
      constructor
      · rintro ⟨i, h1, h2, h3⟩
        exact ⟨i, by omega, h2, h3⟩
      · rintro ⟨i, h1, h2, h3⟩
        have : i ≠ k := fun e => by rw [e, hb] at h2; cases h2
        exact ⟨i, by omega, h2, h3⟩
    · rw [if_pos rfl, List.mem_append, ih]
      constructor
      · rintro (⟨i, h1, h2, h3⟩ | h)
        · exact ⟨i, by omega, h2, h3⟩
        · exact ⟨k, by omega, hb, by simpa using h⟩
      · rintro ⟨i, h1, h2, h3⟩
        by_cases e : i = k
        · exact .inr (by simp [h3, e])
        · exact .inl ⟨i, by omega, h2, h3⟩
theorem elemsTo_more (s k : Nat) (h : s >>> k = 0) : ∀ m, elemsTo s (k + m) = elemsTo s k
  | 0 => rfl
  | m+1 => by
    have hb : s.testBit (k + m) = false := by
      rw [Nat.testBit]
      have : s >>> (k + m) = 0 := by rw [Nat.shiftRight_add, h]; simp
      simp [this]
    show elemsTo s (k + m + 1) = _
    simp only [elemsTo, hb]
    exact elemsTo_more s k h m
/-- all elements of a set below 1024 -/
def elems (s : Nat) : List Int := elemsTo s 10
theorem elems_at {s k : Nat} (h : s >>> k = 0) (hk : k ≤ 10) : elemsTo s k = elems s := by
  have := elemsTo_more s k h (10 - k)
  rw [show k + (10 - k) = 10 from by omega] at this
  exact this.symm
theorem elems_len (s : Nat) : (elems s).length ≤ 10 := elemsTo_len s 10
theorem mem_elems {s : Nat} (hs : s < 1024) {x : Int} : x ∈ elems s ↔ ∃ i : Nat, s.testBit i = true ∧ x = i := by
  rw [elems, mem_elemsTo]
  constructor
  · rintro ⟨i, _, h2, h3⟩
    exact ⟨i, h2, h3⟩
  · rintro ⟨i, h2, h3⟩
    refine ⟨i, ?_, h2, h3⟩
    rcases Nat.lt_or_ge i 10 with h | h
    · exact h
    · have : s < 2 ^ i := Nat.lt_of_lt_of_le hs (Nat.pow_le_pow_right (by omega : 0 < 2) h)
      rw [Nat.testBit_lt_two_pow this] at h2
      cases h2
theorem nth_mem {xs : List Int} {k : Nat} (h : k < xs.length) : nth xs k ∈ xs := by
  rw [nth_get xs k h]; exact List.getElem_mem h
theorem mem_nth {xs : List Int} {x : Int} (h : x ∈ xs) : ∃ k, k < xs.length ∧ nth xs k = x := by
  obtain ⟨k, hk, e⟩ := List.getElem_of_mem h
  exact ⟨k, hk, by rw [nth_get xs k hk, e]⟩

/-- the set of the first k numbers -/
def usedTo (xs : List Int) : Nat → Nat
  | 0 => 0
  | k+1 => usedTo xs k ||| 2 ^ (nth xs k).toNat
theorem usedTo_bit (xs : List Int) (i : Nat) : ∀ k, (usedTo xs k).testBit i = true ↔ ∃ j, j < k ∧ (nth xs j).toNat = i
  | 0 => by simp [usedTo]
  | k+1 => by
    have ih := usedTo_bit xs i k
    rw [usedTo, Nat.testBit_or, testBit_two, Bool.or_eq_true, ih, decide_eq_true_eq]
    constructor
    · rintro (⟨j, h1, h2⟩ | h)
      · exact ⟨j, by omega, h2⟩
      · exact ⟨k, by omega, h⟩
    · rintro ⟨j, h1, h2⟩
      by_cases e : j = k
      · subst e; exact .inr h2
      · exact .inl ⟨j, by omega, h2⟩
theorem usedTo_lt {xs : List Int} (h : ∀ j, j < xs.length → (nth xs j).toNat < 10) : ∀ k, k ≤ xs.length → usedTo xs k < 1024
  | 0, _ => by simp [usedTo]
  | k+1, hk => by
    have h1 := usedTo_lt h k (by omega)
    have h2 := two_lt (h k (by omega))
    exact or_lt (n := 10) (by omega) (by omega)
/-- is with each element above 0 the one below it in a set? -/
def downB (s : Nat) : Bool := (List.range 9).all fun k => !s.testBit (k+1) || s.testBit k
theorem downB_iff {s : Nat} : downB s = true ↔ ∀ k, k < 9 → s.testBit (k+1) = true → s.testBit k = true := by
  simp only [downB, List.all_eq_true, List.mem_range]
  constructor
  · intro h k hk h1
    have := h k hk
    rw [h1] at this
    simpa using this
  · intro h k hk
    cases h1 : s.testBit (k+1)
    · rfl
    · rw [h k hk h1]; rfl
def fullB (s : Nat) : Bool := (s : Int) == 2 ^ (((elems s).length : Nat) : Int).toNat - 1
theorem full_all : ∀ s : Fin 1024, fullB s.val = downB s.val := by decide +kernel
theorem full_down {s : Nat} (h : s < 1024) : fullB s = downB s := full_all ⟨s, h⟩
/-- are they levels? -/
def lvB (xs : List Int) : Bool := decide (xs.length ≤ 10) && (allB xs 0 10 && (List.range xs.length).all fun k => decide (nth xs k ≤ 0) || memB xs (nth xs k - 1))
def lvOk (xs : List Int) (k : Nat) : Bool := decide (nth xs k ≤ 0) || memB xs (nth xs k - 1)
theorem lvB_iff {xs : List Int} : lvB xs = true ↔ xs.length ≤ 10 ∧ allB xs 0 10 = true ∧ ∀ k, k < xs.length → lvOk xs k = true := by
  simp [lvB, lvOk]
theorem pig : ∀ (n : Nat) (l : List Int), (∀ m : Nat, m < n → (m : Int) ∈ l) → n ≤ l.length
  | 0, _, _ => Nat.zero_le _
  | n+1, l, h => by
    have h1 := h n (by omega)
    have h2 := pig n (l.erase (n : Int)) (fun m hm => (List.mem_erase_of_ne (by omega)).2 (h m (by omega)))
    rw [List.length_erase_of_mem h1] at h2
    have := List.length_pos_of_mem h1
    omega
theorem memB_mem {xs : List Int} {i : Int} : memB xs i = true ↔ i ∈ xs := by
  rw [memB_iff]
  constructor
  · rintro ⟨k, hk, rfl⟩; exact nth_mem hk
  · intro h; exact mem_nth h
theorem lv_down {xs : List Int} (h : ∀ k, k < xs.length → lvOk xs k = true) : ∀ v : Nat, (v : Int) ∈ xs → ∀ m : Nat, m ≤ v → (m : Int) ∈ xs
  | 0, hv, m, hm => by
    obtain rfl : m = 0 := by omega
    exact hv
  | v+1, hv, m, hm => by
    by_cases e : m = v + 1
    · subst e; exact hv
    · obtain ⟨k, hk, e2⟩ := mem_nth hv
      have h1 := h k hk
      simp only [lvOk, Bool.or_eq_true, decide_eq_true_eq] at h1
      rcases h1 with h1 | h1
      · omega
      · rw [memB_mem, e2] at h1
        have h2 : (v : Int) ∈ xs := by
          have : ((v + 1 : Nat) : Int) - 1 = (v : Int) := by omega
          rw [← this]; exact h1
        exact lv_down h v h2 m (by omega)
theorem lv_lt {xs : List Int} (h : lvB xs = true) {k : Nat} (hk : k < xs.length) : 0 ≤ nth xs k ∧ nth xs k < (xs.length : Int) := by
  obtain ⟨_, h2, h3⟩ := lvB_iff.1 h
  have ⟨h0, _⟩ := allB_nth h2 hk
  obtain ⟨v, hv⟩ := Int.eq_ofNat_of_zero_le h0
  have h4 : (v : Int) ∈ xs := by rw [← hv]; exact nth_mem hk
  have := pig (v+1) xs (fun m hm => lv_down h3 v h4 m (by omega))
  omega
theorem lv_full {xs : List Int} (h10 : xs.length ≤ 10) (hall : ∀ k, k < xs.length → 0 ≤ nth xs k ∧ nth xs k < (xs.length : Int)) : lvB xs = downB (usedTo xs xs.length) := by
  rw [Bool.eq_iff_iff, lvB_iff, downB_iff]
  constructor
  · rintro ⟨_, _, h3⟩ k hk h1
    obtain ⟨j, hj, e⟩ := (usedTo_bit _ _ _).1 h1
    have h4 := h3 j hj
    have := hall j hj
    simp only [lvOk, Bool.or_eq_true, decide_eq_true_eq] at h4
    rcases h4 with h4 | h4
    · omega
    · obtain ⟨i, hi, e2⟩ := memB_iff.1 h4
      exact (usedTo_bit _ _ _).2 ⟨i, hi, by omega⟩
  · intro h
    refine ⟨h10, ?_, fun k hk => ?_⟩
    · simp only [allB, List.all_eq_true]
      intro x hx
      obtain ⟨k, hk, rfl⟩ := mem_nth hx
      have := hall k hk
      rw [inB_iff]; omega
    · have := hall k hk
      simp only [lvOk, Bool.or_eq_true, decide_eq_true_eq]
      by_cases h0 : nth xs k ≤ 0
      · exact .inl h0
      · right
        obtain ⟨j, hj, e⟩ := (usedTo_bit _ _ _).1 (h ((nth xs k).toNat - 1) (by omega) ((usedTo_bit _ _ _).2 ⟨k, hk, by omega⟩))
        have := hall j hj
        exact memB_iff.2 ⟨j, hj, by omega⟩

theorem elems_lt {S n : Nat} (hS : S < 2 ^ n) (hn : n ≤ 10) : elems S = elemsTo S n := (elems_at (by rw [Nat.shiftRight_eq_div_pow]; exact Nat.div_eq_of_lt hS) hn).symm

/-- the first one of the longest lists whose first element is below k, if the rest behind i is told -/
def bestTo (rest : Nat → List Int) (S : Nat) : Nat → List Int
  | 0 => []
  | k+1 => if S.testBit k then (if (bestTo rest S k).length ≤ (rest k).length then (k : Int) :: rest k else bestTo rest S k) else bestTo rest S k
theorem bestTo_congr {r r' : Nat → List Int} {S : Nat} : ∀ k, (∀ i, i < k → S.testBit i = true → r i = r' i) → bestTo r S k = bestTo r' S k
  | 0, _ => rfl
  | k+1, h => by
    have ih := bestTo_congr k (fun i hi => h i (by omega))
    simp only [bestTo]
    cases hb : S.testBit k
    · simp [ih]
    · rw [ih, h k (by omega) hb]
theorem bestTo_len {r : Nat → List Int} {S d : Nat} : ∀ k, (∀ i, i < k → (r i).length ≤ d) → (bestTo r S k).length ≤ d + 1
  | 0, _ => by simp [bestTo]
  | k+1, h => by
    have ih := bestTo_len (S := S) k (fun i hi => h i (by omega))
    have h2 := h k (by omega)
    simp only [bestTo]
    split
    · split
      · simp; omega
      · exact ih
    · exact ih
def lngD (fl : List Int) : Nat → Nat → List Int
  | 0, _ => []
  | d+1, S => bestTo (fun i => lngD fl d (S &&& (nth fl i).toNat)) S fl.length
theorem lngD_len (fl : List Int) : ∀ d S, (lngD fl d S).length ≤ d
  | 0, _ => Nat.le_refl _
  | d+1, S => bestTo_len _ (fun i _ => lngD_len fl d _)
/-- the first one of the longest lists of elements of S in which what comes behind i is in fl at i -/
def lng (fl : List Int) (S : Nat) : List Int := lngD fl (S+1) S
theorem lng_len (fl : List Int) (S : Nat) : (lng fl S).length ≤ S + 1 := lngD_len fl _ _
/-- no element comes behind itself -/
structure Flw (fl : List Int) : Prop where
  len : fl.length ≤ 10
  ok : ∀ i, i < fl.length → 0 ≤ nth fl i ∧ nth fl i < 1024 ∧ (nth fl i).toNat.testBit i = false
theorem and_less {S x i : Nat} (hS : S.testBit i = true) (hx : x.testBit i = false) : S &&& x < S := by
  have h1 : S &&& x ≤ S := Nat.and_le_left
  rcases Nat.lt_or_eq_of_le h1 with h | h
  · exact h
  · have : (S &&& x).testBit i = true := by rw [h]; exact hS
    rw [Nat.testBit_and, hx] at this
    simp at this
theorem lngD_eq {fl : List Int} (hf : Flw fl) : ∀ (S d : Nat), S < d → lngD fl d S = lng fl S := by
  intro S
  induction S using Nat.strongRecOn with
  | _ S ih =>
    intro d hd
    obtain ⟨e, rfl⟩ : ∃ e, d = e + 1 := ⟨d - 1, by omega⟩
    show bestTo _ S fl.length = bestTo _ S fl.length
    refine bestTo_congr _ (fun i hi hb => ?_)
    have hl := and_less hb (hf.ok i hi).2.2
    rw [ih _ hl e (by omega), ih _ hl S hl]
theorem lng_eq {fl : List Int} (hf : Flw fl) (S : Nat) : lng fl S = bestTo (fun i => lng fl (S &&& (nth fl i).toNat)) S fl.length := by
  show bestTo _ S fl.length = _
  refine bestTo_congr _ (fun i hi hb => ?_)
  exact lngD_eq hf _ _ (and_less hb (hf.ok i hi).2.2)
def stepL (rest : Nat → List Int) (best : List Int) (x : Int) : List Int := if best.length ≤ (rest x.toNat).length then x :: rest x.toNat else best
theorem fold_best (rest : Nat → List Int) (S : Nat) : ∀ k, (elemsTo S k).foldl (stepL rest) [] = bestTo rest S k
  | 0 => rfl
  | k+1 => by
    have ih := fold_best rest S k
    simp only [elemsTo, bestTo]
    cases hb : S.testBit k
    · simpa using ih
    · rw [if_pos rfl, if_pos rfl, List.foldl_append, ih]
      rfl
theorem fold_take {f : List Int → Int → List Int} {es : List Int} {m : Nat} (h : m < es.length) : (es.take (m+1)).foldl f [] = f ((es.take m).foldl f []) (nth es m) := by
  rw [List.take_succ_eq_append_getElem h, List.foldl_append, nth_get _ _ h]; rfl
theorem and_i {a b : Int} (ha : 0 ≤ a) (ha1 : a < 9223372036854775808) (hb : 0 ≤ b) (hb1 : b < 9223372036854775808) : bits .and .i64 a b = ((a.toNat &&& b.toNat : Nat) : Int) := by
  obtain ⟨A, rfl⟩ := Int.eq_ofNat_of_zero_le ha
  obtain ⟨B, rfl⟩ := Int.eq_ofNat_of_zero_le hb
  exact and_nat A B (by omega) (by omega)

def elemB (i n : Int) : Bool := decide (0 ≤ i) && decide (i < n)
theorem elemB_iff {i n : Int} : elemB i n = true ↔ 0 ≤ i ∧ i < n := by simp [elemB]
theorem elemB_no {i n : Int} : elemB i n = false ↔ i < 0 ∨ n ≤ i := by
  rw [← Bool.not_eq_true, elemB_iff]; omega

theorem ret_bb {a b c d : Bool} (h : a = b) (h2 : c = d) : Ending.returned (.tuple #[.bool a, .bool c]) = .returned (.tuple #[.bool b, .bool d]) := by rw [h, h2]
theorem ret_ib {a b : Int} {c d : Bool} (h : a = b) (h2 : c = d) : Ending.returned (.tuple #[.int .i64 a, .bool c]) = .returned (.tuple #[.int .i64 b, .bool d]) := by rw [h, h2]

def okE (n : Int) (xs : List Int) (i : Int) : Bool := relB n xs && elemB i n
def okB (n : Int) (xs : List Int) (i j : Int) : Bool := relB n xs && elemB i n && elemB j n
def betF (n : Int) (xs : List Int) (i j : Int) : Bool := okB n xs i j && hasB (nth xs i.toNat) j

/-- how many lists of so many levels, each one of lv, have each of the m missing ones -/
def cE (lv : Nat) : Nat → Nat → Nat
  | 0, m => if 0 < m then 0 else 1
  | L+1, m => if L + 1 < m then 0 else if m = 0 then lv * cE lv L 0 else m * cE lv L (m - 1) + (lv - m) * cE lv L m
theorem cE_le {lv : Nat} (hl : lv ≤ 10) : ∀ {L m : Nat}, m ≤ lv → cE lv L m ≤ 10 ^ L
  | 0, m, _ => by simp only [cE]; split <;> simp
  | L+1, m, hm => by
    have hp : 10 ^ (L+1) = 10 * 10 ^ L := by rw [Nat.pow_succ]; omega
    simp only [cE]
    split
    · omega
    · split
      · have h1 := cE_le hl (L := L) (m := 0) (by omega)
        have := Nat.mul_le_mul hl h1
        omega
      · have h1 := cE_le hl (L := L) (m := m - 1) (by omega)
        have h2 := cE_le hl (L := L) (m := m) hm
        have h3 := Nat.mul_le_mul (Nat.le_refl m) h1
        have h4 := Nat.mul_le_mul (Nat.le_refl (lv - m)) h2
        have h5 : m * 10 ^ L + (lv - m) * 10 ^ L = lv * 10 ^ L := by rw [← Nat.add_mul]; congr 1; omega
        have h6 := Nat.mul_le_mul hl (Nat.le_refl (10 ^ L))
        omega
theorem ten_le {L : Nat} (h : L ≤ 10) : 10 ^ L ≤ 10000000000 := Nat.le_trans (Nat.pow_le_pow_right (by omega) h) (by decide)
theorem cE_small {lv L m : Nat} (hl : lv ≤ 10) (hL : L ≤ 10) (hm : m ≤ lv) : cE lv L m ≤ 10000000000 := Nat.le_trans (cE_le hl hm) (ten_le hL)
/-- the least number of levels that a list may have -/
def lsN (xs : List Int) : Nat → Nat
  | 0 => 0
  | k+1 => max (lsN xs k) ((nth xs k).toNat + 1)
theorem lsN_le {xs : List Int} {n : Nat} : ∀ {k : Nat}, (∀ j, j < k → 0 ≤ nth xs j ∧ nth xs j < (n : Int)) → lsN xs k ≤ n
  | 0, _ => by simp [lsN]
  | k+1, h => by
    have h1 := lsN_le (n := n) (k := k) (fun j hj => h j (by omega))
    have h2 := h k (by omega)
    simp only [lsN]
    omega
theorem used_ls (xs : List Int) : ∀ k, usedTo xs k < 2 ^ lsN xs k
  | 0 => by simp [usedTo, lsN]
  | k+1 => by
    have h1 := used_ls xs k
    simp only [usedTo, lsN]
    refine or_lt ?_ ?_
    · exact Nat.lt_of_lt_of_le h1 (Nat.pow_le_pow_right (by omega) (by omega))
    · exact two_lt (by omega)
/-- the sum over so many numbers of levels, from the least one on -/
def cntTo (u L least : Nat) : Nat → Nat
  | 0 => 0
  | k+1 => cntTo u L least k + cE (least + k) L (least + k - u)
theorem cntTo_le {u L least : Nat} (hL : L ≤ 10) : ∀ {k : Nat}, least + k ≤ 11 → cntTo u L least k ≤ k * 10000000000
  | 0, _ => by simp [cntTo]
  | k+1, h => by
    have h1 := cntTo_le (u := u) (least := least) hL (k := k) (by omega)
    have h2 := cE_small (lv := least + k) (L := L) (m := least + k - u) (by omega) hL (by omega)
    simp only [cntTo]
    omega
/-- how many levels of n elements begin with a list -/
def cntL (xs : List Int) (n : Nat) : Nat := cntTo (elems (usedTo xs xs.length)).length (n - xs.length) (lsN xs xs.length) (n + 1 - lsN xs xs.length)

/-- partitions of n elements into k blocks -/
def fpN : Nat → Nat → Nat
  | 0, 0 => 1
  | 0, _+1 => 0
  | _+1, 0 => 0
  | n+1, k+1 => fpN n k + (k+1) * fpN n (k+1)
theorem fpN_small {n k : Nat} (hn : n ≤ 7) (hk : k ≤ 7) : fpN n k ≤ 1000 := by
  have : ∀ (n k : Fin 8), fpN n.val k.val ≤ 1000 := by decide +kernel
  exact this ⟨n, by omega⟩ ⟨k, by omega⟩
def sqP : Nat → Nat
  | 0 => 1
  | j+1 => sqP j * ((j+1) * (j+1))
theorem sqP_small {j : Nat} (h : j ≤ 6) : sqP j ≤ 518400 := by
  have : ∀ j : Fin 7, sqP j.val ≤ 518400 := by decide +kernel
  exact this ⟨j, by omega⟩
/-- the two sums -/
def cbI (R C : Nat) : Nat → Nat
  | 0 => 0
  | k+1 => cbI R C k + cE (k+1) R k * cE (k+1) C k
def cbS (R C : Nat) : Nat → Nat
  | 0 => 0
  | k+1 => cbS R C k + sqP k * fpN (R+1) (k+1) * fpN (C+1) (k+1)
theorem cbS_small {R C k : Nat} (hR : R ≤ 6) (hC : C ≤ 6) (hk : k ≤ 7) : cbS R C k ≤ 1000000000 := by
  have : ∀ (R C : Fin 7) (k : Fin 8), cbS R.val C.val k.val ≤ 1000000000 := by decide +kernel
  exact this ⟨R, by omega⟩ ⟨C, by omega⟩ ⟨k, by omega⟩
theorem cbI_eq {R C k : Nat} (hR : R ≤ 6) (hC : C ≤ 6) (hk : k ≤ 7) : cbI R C k = cbS R C k := by
  have : ∀ (R C : Fin 7) (k : Fin 8), cbI R.val C.val k.val = cbS R.val C.val k.val := by decide +kernel
  exact this ⟨R, by omega⟩ ⟨C, by omega⟩ ⟨k, by omega⟩
def okCb (r c : Int) : Bool := inB r 1 6 && inB c 1 6
def cbN (r c : Int) : Int := if okCb r c then ((cbS r.toNat c.toNat (min r.toNat c.toNat + 1) : Nat) : Int) else 0

def val64 (s a b c : Int) : Int := wrap64 (s + wrap64 (wrap64 (a * b) * c))
theorem feParts_any : ∀ (n k : Nat) (w : World), n ≤ 7 → k ≤ 7 →
    Calls Try.prog 54 #[.int .i64 (n : Int), .int .i64 (k : Int)] w fun e w' => e = .returned (.int .i64 ((fpN n k : Nat) : Int)) ∧ w = w'
  | 0, 0, w, _, _ => by
    go_enter Try.func54, Try.ntmps54
    go_wp2_with fail
    go_ret
    exact ⟨rfl, rfl⟩
  | 0, k+1, w, _, hk => by
    obtain ⟨K, hK⟩ : ∃ K, K = k + 1 := ⟨_, rfl⟩
    have hz : ((K : Int) == 0) = false := by simp; omega
    have hz2 : ((0 : Int) == (K : Int)) = false := by simp; omega
    have HE : Hid (fpN 0 (k+1) = 0) := rfl
    rw [← hK] at HE ⊢
    clear hK
    go_enter Try.func54, Try.ntmps54
    go_wp2_with fail
    go_ret
    exact ⟨ret_int (by rw [HE.out]; rfl), rfl⟩
  | n+1, 0, w, hn, _ => by
    obtain ⟨N, hN⟩ : ∃ N, N = n + 1 := ⟨_, rfl⟩
    have hz : ((N : Int) == 0) = false := by simp; omega
    have HE : Hid (fpN (n+1) 0 = 0) := rfl
    rw [← hN] at HE ⊢
    clear hN
    go_enter Try.func54, Try.ntmps54
    go_wp2_with fail
    go_ret
    exact ⟨ret_int (by rw [HE.out]; rfl), rfl⟩
  | n+1, k+1, w, hn, hk => by
    have HIH : Hid (∀ (p q : Int) (w : World) (Q : Nat), p = (n : Int) → q = (Q : Int) → Q ≤ 7 → Calls Try.prog 54 #[.int .i64 p, .int .i64 q] w fun e w' => e = .returned (.int .i64 ((fpN n Q : Nat) : Int)) ∧ w = w') := by
      intro p q w Q h1 h2 h3
      subst h1 h2
      exact feParts_any n Q w (by omega) h3
    have h1 := fpN_small (n := n) (k := k) (by omega) (by omega)
    have h2 := fpN_small (n := n) (k := k+1) (by omega) (by omega)
    have HE : Hid (fpN (n+1) (k+1) = fpN n k + (k+1) * fpN n (k+1)) := rfl
    have h3 : (k+1) * fpN n (k+1) ≤ 7 * 1000 := Nat.mul_le_mul hk h2
    have hm : wrap64 (((k + 1 : Nat) : Int) * ((fpN n (k+1) : Nat) : Int)) = (((k+1) * fpN n (k+1) : Nat) : Int) := by
      rw [← Int.natCast_mul]; exact IntWalk.wrap64_in _ ⟨by omega, by omega⟩
    obtain ⟨N, hN⟩ : ∃ N, N = n + 1 := ⟨_, rfl⟩
    obtain ⟨K, hK⟩ : ∃ K, K = k + 1 := ⟨_, rfl⟩
    have hz : ((K : Int) == 0) = false := by simp; omega
    have hz2 : ((N : Int) == 0) = false := by simp; omega
    have hNi : (N : Int) = (n : Int) + 1 := by omega
    have hKi : (K : Int) = (k : Int) + 1 := by omega
    have HNI := Lib.hid hNi
    have HKI := Lib.hid hKi
    have n7 : N ≤ 7 := by omega
    have k7 : K ≤ 7 := by omega
    have HKK := Lib.hid hK
    rw [← hN, ← hK] at HE ⊢
    rw [← hK] at hm h2 h3
    have HM := Lib.hid hm
    clear hN hK hNi hKi hm
    obtain ⟨P, hP⟩ : ∃ P, P = K * fpN n K := ⟨_, rfl⟩
    rw [← hP] at HM HE h3
    clear hP
    have HP3 := Lib.hid h3
    have HP1 := Lib.hid h1
    go_enter Try.func54, Try.ntmps54
    go_wp2_with fail
    refine (HIH.out _ _ _ k (by have := HNI.out; omega) (by have := HKI.out; omega) (by omega)).mono ?_
    rintro e w' ⟨rfl, rfl⟩
    go_wp2_with fail
    refine (HIH.out _ _ _ K (by have := HNI.out; omega) rfl k7).mono ?_
    rintro e w' ⟨rfl, rfl⟩
    go_wp2_with fail
    go_ret
    refine ⟨ret_int ?_, rfl⟩
    have := HP3.out
    have := HP1.out
    rw [HE.out, HM.out, Int.natCast_add]
    exact IntWalk.wrap64_in _ ⟨by omega, by omega⟩

theorem l1In_any (n lo hi : Int) (w : World) :
    Calls Try.prog 45 #[.int .i64 n, .int .i64 lo, .int .i64 hi] w fun e w' => e = .returned (.bool (inB n lo hi)) ∧ w = w' := by
  go_enter Try.func45, Try.ntmps45
  go_wp2
  all_goals (go_ret; exact ⟨ret_bool (by simp [inB]; try omega), rfl⟩)
theorem l1In_is {n lo hi : Int} {b : Bool} (h : inB n lo hi = b) (w : World) (m : Nat) :
    Calls Try.prog 45 #[.int .i64 n, .int .i64 lo, .int .i64 hi] (w.drewN m) fun e w' => e = .returned (.bool b) ∧ ∃ k, w' = w.drewN k :=
  Calls.quiet_of_same ((l1In_any n lo hi (w.drewN m)).mono (fun e w' hh => ⟨by rw [← h]; exact hh.1, hh.2.symm⟩))

theorem ret_ib' {a a' : Int} {b b' : Bool} (h1 : a = a') (h2 : b = b') : Ending.returned (.tuple #[.int .i64 a, .bool b]) = .returned (.tuple #[.int .i64 a', .bool b']) := by rw [h1, h2]

set_option maxRecDepth 100000 in
theorem sCntBi_any (r c : Int) (w : World) (hr : -9223372036854775808 ≤ r ∧ r ≤ 9223372036854775807) (hc : -9223372036854775808 ≤ c ∧ c ≤ 9223372036854775807) :
    Calls Try.prog 23 #[.int .i64 r, .int .i64 c] w fun e w' => e = .returned (.tuple #[.int .i64 (cbN r c), .bool (okCb r c)]) ∧ Below w.heap.size w w' := by
  cases h1 : inB r 1 6
  · have HN : Hid (cbN r c = 0) := by simp [Hid, cbN, okCb, h1]
    have HK : Hid (okCb r c = false) := by simp [Hid, okCb, h1]
    have HS := Lib.hid h1
    clear h1
    go_enter Try.func23, Try.ntmps23
    go_wp2_with fail
    refine (l1In_any _ _ _ _).mono ?_
    rw [HS.out]
    rintro e w' ⟨rfl, rfl⟩
    go_wp2_with fail
    go_ret2
    exact ⟨ret_ib HN.out.symm HK.out.symm, Below.refl _ _⟩
  · cases h2 : inB c 1 6
    · have HN : Hid (cbN r c = 0) := by simp [Hid, cbN, okCb, h2]
      have HK : Hid (okCb r c = false) := by simp [Hid, okCb, h2]
      have HS := Lib.hid h1
      have HS2 := Lib.hid h2
      clear h1 h2
      go_enter Try.func23, Try.ntmps23
      go_wp2_with fail
      refine (l1In_any _ _ _ _).mono ?_
      rw [HS.out]
      rintro e w' ⟨rfl, rfl⟩
      go_wp2_with fail
      refine (l1In_any _ _ _ _).mono ?_
      rw [HS2.out]
      rintro e w' ⟨rfl, rfl⟩
      go_wp2_with fail
      go_ret2
      exact ⟨ret_ib HN.out.symm HK.out.symm, Below.refl _ _⟩
    · have ⟨r0, r1⟩ := inB_iff.1 h1
      have ⟨c0, c1⟩ := inB_iff.1 h2
      have HK : Hid (okCb r c = true) := by simp [Hid, okCb, h1, h2]
      obtain ⟨R, rfl⟩ := Int.eq_ofNat_of_zero_le (show 0 ≤ r by omega)
      obtain ⟨C, rfl⟩ := Int.eq_ofNat_of_zero_le (show 0 ≤ c by omega)
      obtain ⟨M, hM⟩ : ∃ M, M = min R C := ⟨_, rfl⟩
      have HN : Hid (cbN R C = ((cbS R C (M + 1) : Nat) : Int)) := by
        have := HK.out
        simp only [Hid, cbN, this, if_true, Int.toNat_natCast]
        rw [hM]
      have HS := Lib.hid h1
      have HS2 := Lib.hid h2
      have hM6 : M ≤ 6 := by omega
      have hM3 : M ≤ R ∧ M ≤ C ∧ (R ≤ M ∨ C ≤ M) := by omega
      clear h1 h2 hM
      go_enter Try.func23, Try.ntmps23
      go_wp2_with fail
      refine (l1In_any _ _ _ _).mono ?_
      rw [HS.out]
      rintro e w' ⟨rfl, rfl⟩
      go_wp2_with fail
      refine (l1In_any _ _ _ _).mono ?_
      rw [HS2.out]
      rintro e w' ⟨rfl, rfl⟩
      go_wp2_with fail
      go_loop [6, 7, 8] (fun s q i => ∃ k : Nat, k ≤ M + 1 ∧ i = .int .i64 k ∧ s = .int .i64 ((cbS R C k : Nat) : Int) ∧ q = .int .i64 ((sqP (k - 1) : Nat) : Int)) (fun _ _ i => M + 1 - (intOf i).toNat)
      case atStart => exact ⟨0, Nat.zero_le _, rfl, rfl, rfl⟩
      case round =>
        obtain ⟨k, hk, rfl, rfl, rfl⟩ := hrel
        by_cases hlt : k < M + 1
        · have kR : (k : Int) ≤ (R : Int) := by omega
          have kC : (k : Int) ≤ (C : Int) := by omega
          have hs := cbS_small (R := R) (C := C) (k := k + 1) (by omega) (by omega) (by omega)
          have HE : Hid (cbS R C (k+1) = cbS R C k + sqP k * fpN (R+1) (k+1) * fpN (C+1) (k+1)) := rfl
          have HCS := Lib.hid hs
          have q1 := sqP_small (j := k) (by omega)
          have q2 := fpN_small (n := R+1) (k := k+1) (by omega) (by omega)
          have q3 := fpN_small (n := C+1) (k := k+1) (by omega) (by omega)
          have HC1 := Lib.hid (fun (p q : Int) (w : World) (h1 : p = ((R+1 : Nat) : Int)) (h2 : q = ((k+1 : Nat) : Int)) => (show Calls Try.prog 54 #[.int .i64 p, .int .i64 q] w fun e w' => e = .returned (.int .i64 ((fpN (R+1) (k+1) : Nat) : Int)) ∧ w = w' by subst h1 h2; exact feParts_any (R+1) (k+1) w (by omega) (by omega)))
          have HC2 := Lib.hid (fun (p q : Int) (w : World) (h1 : p = ((C+1 : Nat) : Int)) (h2 : q = ((k+1 : Nat) : Int)) => (show Calls Try.prog 54 #[.int .i64 p, .int .i64 q] w fun e w' => e = .returned (.int .i64 ((fpN (C+1) (k+1) : Nat) : Int)) ∧ w = w' by subst h1 h2; exact feParts_any (C+1) (k+1) w (by omega) (by omega)))
          have HQ := Lib.hid (And.intro q1 (And.intro q2 q3))
          have hfin : Hid (val64 ((cbS R C k : Nat) : Int) ((sqP k : Nat) : Int) ((fpN (R+1) (k+1) : Nat) : Int) ((fpN (C+1) (k+1) : Nat) : Int) = ((cbS R C (k+1) : Nat) : Int)) := by
            rw [Hid, HE.out, val64]
            have h3 := HCS.out
            rw [HE.out] at h3
            have e1 : sqP k * fpN (R+1) (k+1) ≤ 518400 * 1000 := Nat.mul_le_mul q1 q2
            rw [← Int.natCast_mul]
            generalize sqP k * fpN (R+1) (k+1) = P1 at h3 e1 ⊢
            rw [IntWalk.wrap64_in (P1 : Int) ⟨by omega, by omega⟩, ← Int.natCast_mul]
            generalize P1 * fpN (C+1) (k+1) = P2 at h3 ⊢
            rw [IntWalk.wrap64_in (P2 : Int) ⟨by omega, by omega⟩, IntWalk.wrap64_in _ ⟨by omega, by omega⟩]
            omega
          clear hs q1 q2 q3
          by_cases h0 : 0 < (k : Int)
          · obtain ⟨j, hj⟩ : ∃ j, k = j + 1 := ⟨k - 1, by omega⟩
            have hq : Hid (wrap64 (((sqP (k - 1) : Nat) : Int) * wrap64 ((k : Int) * (k : Int))) = ((sqP k : Nat) : Int)) := by
              have h1 := HQ.out.1
              have hk6 : k ≤ 6 := by omega
              have h2 : k * k ≤ 6 * 6 := Nat.mul_le_mul hk6 hk6
              have h3 : sqP k = sqP (k - 1) * (k * k) := by rw [hj]; rfl
              rw [Hid, ← Int.natCast_mul, IntWalk.wrap64_in ((k * k : Nat) : Int) ⟨by omega, by omega⟩, ← Int.natCast_mul, ← h3]
              exact IntWalk.wrap64_in _ ⟨by omega, by omega⟩
            clear hj
            go_wp2_with fail
            rw [hq.out]
            refine (HC1.out _ _ _ (by omega) (by omega)).mono ?_
            rintro e w' ⟨rfl, rfl⟩
            go_wp2_with fail
            refine (HC2.out _ _ _ (by omega) (by omega)).mono ?_
            rintro e w' ⟨rfl, rfl⟩
            go_wp2_with fail
            go_round
            case rel => exact ⟨k + 1, by omega, by go_num, val_int hfin.out, rfl⟩
            case measure => simp [intOf]; omega
          · have hq : Hid (sqP (k - 1) = sqP k) := by
              have : k = 0 := by omega
              subst this; rfl
            rw [hq.out]
            go_wp2_with fail
            refine (HC1.out _ _ _ (by omega) (by omega)).mono ?_
            rintro e w' ⟨rfl, rfl⟩
            go_wp2_with fail
            refine (HC2.out _ _ _ (by omega) (by omega)).mono ?_
            rintro e w' ⟨rfl, rfl⟩
            go_wp2_with fail
            go_round
            case rel => exact ⟨k + 1, by omega, by go_num, val_int hfin.out, rfl⟩
            case measure => simp [intOf]; omega
        · have HE : Hid (cbS R C k = cbS R C (M + 1)) := by
            have : k = M + 1 := by omega
            rw [Hid, this]
          by_cases hkR : (k : Int) ≤ (R : Int)
          · have hkC : ¬ (k : Int) ≤ (C : Int) := by omega
            go_wp2_with fail
            go_ret2
            exact ⟨ret_ib (by rw [HN.out, HE.out]) HK.out.symm, Below.refl _ _⟩
          · go_wp2_with fail
            go_ret2
            exact ⟨ret_ib (by rw [HN.out, HE.out]) HK.out.symm, Below.refl _ _⟩

set_option maxRecDepth 100000 in
theorem iEnd_any : ∀ (L lv m : Nat) (w : World), L ≤ 10 → lv ≤ 10 → m ≤ lv →
    Calls Try.prog 55 #[.int .i64 (L : Int), .int .i64 (lv : Int), .int .i64 (m : Int)] w fun e w' => e = .returned (.int .i64 ((cE lv L m : Nat) : Int)) ∧ w = w'
  | 0, lv, m, w, hL, hv, hm => by
    by_cases h0 : 0 < m
    · have HE : Hid (cE lv 0 m = 0) := by simp [Hid, cE, h0]
      go_enter Try.func55, Try.ntmps55
      go_wp2_with fail
      go_ret
      exact ⟨ret_int (by rw [HE.out]; rfl), rfl⟩
    · obtain rfl : m = 0 := by omega
      have HE : Hid (cE lv 0 0 = 1) := by simp [Hid, cE]
      go_enter Try.func55, Try.ntmps55
      go_wp2_with fail
      go_ret
      exact ⟨ret_int (by rw [HE.out]; rfl), rfl⟩
  | L+1, lv, m, w, hL, hv, hm => by
    have HIH : Hid (∀ (l q : Int) (w : World), l = (L : Int) → 0 ≤ q → q ≤ (lv : Int) → Calls Try.prog 55 #[.int .i64 l, .int .i64 (lv : Int), .int .i64 q] w fun e w' => e = .returned (.int .i64 ((cE lv L q.toNat : Nat) : Int)) ∧ w = w') := by
      intro l q w h1 h2 h3
      subst h1
      obtain ⟨Q, rfl⟩ := Int.eq_ofNat_of_zero_le h2
      exact iEnd_any L lv Q w (by omega) hv (by omega)
    have hz : (((L + 1 : Nat) : Int) == 0) = false := by simp; omega
    by_cases h1 : L + 1 < m
    · have HE : Hid (cE lv (L+1) m = 0) := by simp [Hid, cE, h1]
      go_enter Try.func55, Try.ntmps55
      go_wp2_with fail
      go_ret
      exact ⟨ret_int (by rw [HE.out]; rfl), rfl⟩
    · by_cases h2 : m = 0
      · subst h2
        have HE : Hid (cE lv (L+1) 0 = lv * cE lv L 0) := by simp [Hid, cE]
        have hs := cE_small (lv := lv) (L := L) (m := 0) hv (by omega) (by omega)
        have HB : Hid (cE lv (L+1) 0 ≤ 10000000000) := cE_small (lv := lv) (L := L + 1) (m := 0) hv hL (by omega)
        go_enter Try.func55, Try.ntmps55
        go_wp2_with fail
        refine (HIH.out _ _ _ (by omega) (by omega) (by omega)).mono ?_
        rintro e w' ⟨rfl, rfl⟩
        go_wp2_with fail
        go_ret
        refine ⟨ret_int ?_, rfl⟩
        have h3 := HB.out
        have h4 := HE.out
        rw [h4] at h3 ⊢
        rw [← Int.natCast_mul]
        generalize lv * cE lv L 0 = P at h3 ⊢
        exact IntWalk.wrap64_in _ ⟨by omega, by omega⟩
      · have HE : Hid (cE lv (L+1) m = m * cE lv L (m - 1) + (lv - m) * cE lv L m) := by simp [Hid, cE, h1, h2]
        have hs1 := cE_small (lv := lv) (L := L) (m := m - 1) hv (by omega) (by omega)
        have hs2 := cE_small (lv := lv) (L := L) (m := m) hv (by omega) hm
        have HB : Hid (cE lv (L+1) m ≤ 10000000000) := cE_small (lv := lv) (L := L + 1) (m := m) hv hL hm
        have hz2 : ((m : Int) == 0) = false := by simp; omega
        go_enter Try.func55, Try.ntmps55
        go_wp2_with fail
        refine (HIH.out _ _ _ (by omega) (by omega) (by omega)).mono ?_
        rintro e w' ⟨rfl, rfl⟩
        go_wp2_with fail
        refine (HIH.out _ _ _ (by omega) (by omega) (by omega)).mono ?_
        rintro e w' ⟨rfl, rfl⟩
        go_wp2_with fail
        go_ret
        refine ⟨ret_int ?_, rfl⟩
        have h3 := HB.out
        have h4 := HE.out
        rw [h4] at h3 ⊢
        have e2 : ((lv : Int) - (m : Int)) * ((cE lv L m : Nat) : Int) = (((lv - m) * cE lv L m : Nat) : Int) := by
          rw [Int.natCast_mul, show ((lv : Int) - (m : Int)) = ((lv - m : Nat) : Int) by omega]
        rw [e2, ← Int.natCast_mul]
        generalize m * cE lv L (m - 1) = P1 at h3 ⊢
        generalize (lv - m) * cE lv L m = P2 at h3 ⊢
        rw [IntWalk.wrap64_in (P1 : Int) ⟨by omega, by omega⟩, IntWalk.wrap64_in (P2 : Int) ⟨by omega, by omega⟩, IntWalk.wrap64_in _ ⟨by omega, by omega⟩]
        omega
theorem iEnd_int (L lv m : Nat) (l v q : Int) (w : World) (hl : l = (L : Int)) (hv : v = (lv : Int)) (hq : q = (m : Int)) (h1 : L ≤ 10) (h2 : lv ≤ 10) (h3 : m ≤ lv) :
    Calls Try.prog 55 #[.int .i64 l, .int .i64 v, .int .i64 q] w fun e w' => e = .returned (.int .i64 ((cE lv L m : Nat) : Int)) ∧ w = w' := by
  subst hl hv hq
  exact iEnd_any L lv m w h1 h2 h3

theorem isShape_any (r c : Int) (w : World) :
    Calls Try.prog 49 #[.int .i64 r, .int .i64 c] w fun e w' => e = .returned (.bool (inB r 1 6 && inB c 1 6)) ∧ w = w' := by
  by_cases h0 : 1 ≤ r
  · by_cases h1 : r ≤ 6
    · by_cases h2 : 1 ≤ c
      all_goals
        go_enter Try.func49, Try.ntmps49
        go_wp2
        go_ret
        exact ⟨ret_bool (by simp [inB, h0, h1, h2] <;> omega), rfl⟩
    · go_enter Try.func49, Try.ntmps49
      go_wp2
      go_ret
      exact ⟨ret_bool (by simp [inB, h0, h1] <;> omega), rfl⟩
  · go_enter Try.func49, Try.ntmps49
    go_wp2
    go_ret
    exact ⟨ret_bool (by simp [inB, h0] <;> omega), rfl⟩

set_option maxRecDepth 100000 in
theorem iCntBi_any (r c : Int) (w : World) (hr : -9223372036854775808 ≤ r ∧ r ≤ 9223372036854775807) (hc : -9223372036854775808 ≤ c ∧ c ≤ 9223372036854775807) :
    Calls Try.prog 24 #[.int .i64 r, .int .i64 c] w fun e w' => e = .returned (.tuple #[.int .i64 (cbN r c), .bool (okCb r c)]) ∧ Below w.heap.size w w' := by
  cases h : okCb r c
  · have HN : Hid (cbN r c = 0) := by simp [Hid, cbN, h]
    have HK := Lib.hid h
    have HS : Hid ((inB r 1 6 && inB c 1 6) = false) := h
    clear h
    go_enter Try.func24, Try.ntmps24
    go_wp2_with fail
    refine (isShape_any _ _ _).mono ?_
    rw [HS.out]
    rintro e w' ⟨rfl, rfl⟩
    go_wp2_with fail
    go_ret2
    exact ⟨ret_ib HN.out.symm rfl, Below.refl _ _⟩
  · have ⟨h1, h2⟩ : inB r 1 6 = true ∧ inB c 1 6 = true := by simpa [okCb] using h
    have ⟨r0, r1⟩ := inB_iff.1 h1
    have ⟨c0, c1⟩ := inB_iff.1 h2
    obtain ⟨R, rfl⟩ := Int.eq_ofNat_of_zero_le (show 0 ≤ r by omega)
    obtain ⟨C, rfl⟩ := Int.eq_ofNat_of_zero_le (show 0 ≤ c by omega)
    have HK := Lib.hid h
    have HS : Hid ((inB (R : Int) 1 6 && inB (C : Int) 1 6) = true) := h
    rcases Nat.lt_or_ge C R with hCR | hCR
    all_goals
      obtain ⟨M, hM⟩ : ∃ M, M = min R C := ⟨_, rfl⟩
      have HN : Hid (cbN R C = ((cbI R C (M + 1) : Nat) : Int)) := by
        simp only [Hid, cbN, h, if_true, Int.toNat_natCast]
        rw [cbI_eq (by omega) (by omega) (by omega), hM]
      have hM6 : M ≤ 6 := by omega
      first | (have hm1 : M ≤ C := by omega) | (have hm1 : M ≤ R := by omega)
      have hm2 : R ≤ M ∨ C ≤ M := by omega
      have HM2 := Lib.hid hm2
      have hm3 : M ≤ R ∧ M ≤ C := by omega
      have HM3 := Lib.hid hm3
      clear hM hm2 hm3 hm1
      go_enter Try.func24, Try.ntmps24
      go_wp2_with fail
      refine (isShape_any _ _ _).mono ?_
      rw [HS.out]
      rintro e w' ⟨rfl, rfl⟩
      go_wp2_with fail
      go_loop [6, 16] (fun s i => ∃ k : Nat, k ≤ M + 1 ∧ i = .int .i64 k ∧ s = .int .i64 ((cbI R C k : Nat) : Int)) (fun _ i => M + 1 - (intOf i).toNat)
      case atStart => exact ⟨0, Nat.zero_le _, rfl, rfl⟩
      case round =>
        obtain ⟨k, hk, rfl, rfl⟩ := hrel
        have hM2 := HM2.out
        have hM3 := HM3.out
        by_cases hlt : k < M + 1
        · have hs := cbS_small (R := R) (C := C) (k := k + 1) (by omega) (by omega) (by omega)
          rw [← cbI_eq (by omega) (by omega) (by omega)] at hs
          have HE : Hid (cbI R C (k+1) = cbI R C k + cE (k+1) R k * cE (k+1) C k) := rfl
          have HCS := Lib.hid hs
          have HC1 := Lib.hid (fun (l v q : Int) (w : World) h1 h2 h3 => iEnd_int R (k+1) k l v q w h1 h2 h3 (by omega) (by omega) (by omega))
          have HC2 := Lib.hid (fun (l v q : Int) (w : World) h1 h2 h3 => iEnd_int C (k+1) k l v q w h1 h2 h3 (by omega) (by omega) (by omega))
          clear hs
          go_wp2_with fail
          refine (HC1.out _ _ _ _ (by omega) (by omega) (by omega)).mono ?_
          rintro e w' ⟨rfl, rfl⟩
          go_wp2_with fail
          refine (HC2.out _ _ _ _ (by omega) (by omega) (by omega)).mono ?_
          rintro e w' ⟨rfl, rfl⟩
          go_wp2_with fail
          go_round
          case rel =>
            refine ⟨k + 1, by omega, by go_num, val_int ?_⟩
            have h3 := HCS.out
            have h4 := HE.out
            rw [h4] at h3 ⊢
            rw [← Int.natCast_mul]
            generalize cE (k+1) R k * cE (k+1) C k = P at h3 ⊢
            rw [IntWalk.wrap64_in (P : Int) ⟨by omega, by omega⟩, IntWalk.wrap64_in _ ⟨by omega, by omega⟩]
            omega
          case measure => simp [intOf]; omega
        · have HE : Hid (cbI R C k = cbI R C (M + 1)) := by
            have : k = M + 1 := by omega
            rw [Hid, this]
          go_wp2_with fail
          go_ret2
          exact ⟨ret_ib (by rw [HN.out, HE.out]) rfl, Below.refl _ _⟩

theorem walk (i0 : Int) (i1 : Int) (w : World) (hi0 : -9223372036854775808 ≤ i0 ∧ i0 ≤ 9223372036854775807) (hi1 : -9223372036854775808 ≤ i1 ∧ i1 ≤ 9223372036854775807) :
    Calls Try.prog 4 #[.int .i64 i0, .int .i64 i1] w fun e w' => e = .returned (.bool true) ∧ Below w.heap.size w w' := by
  go_enter Try.func4, Try.ntmps4
  go_wp2_with fail
  refine (sCntBi_any _ _ _ hi0 hi1).mono ?_
  rintro e w1 ⟨rfl, hb⟩
  have ht : Below w.heap.size w w1 := Below.trans (by repeat (first | exact Below.refl _ _ | assumption | refine Below.alloc ?_ (by first | exact Nat.le_refl _ | (simp only [World.size_alloc, World.size_setCell, World.size_drew]; omega) | omega) _ | refine Below.setCell ?_ (by first | exact Nat.le_refl _ | (simp only [World.size_alloc, World.size_setCell, World.size_drew]; omega) | omega) _ | refine Below.drew ?_)) (hb.mono (by first | (simp only [World.size_alloc, World.size_setCell, World.size_drew]; omega) | omega))
  have z1 : w.heap.size ≤ w1.heap.size := ht.size
  have bw1 : Below w.heap.size w w1 := ht
  clear ht hb
  go_wp2_with fail
  refine (iCntBi_any _ _ _ hi0 hi1).mono ?_
  rintro e w2 ⟨rfl, hb⟩
  have ht : Below w1.heap.size w1 w2 := hb
  have z2 : w1.heap.size ≤ w2.heap.size := ht.size
  have bw2 : Below w.heap.size w w2 := bw1.trans (ht.mono bw1.size)
  clear ht hb
  go_wp2_with fail
  go_ret
  exact ⟨rfl, bw2⟩

theorem rd_of_trod {H : Type} {enc : TypeId × Value → H} {W : World} {fuel : Nat} {c : Value} {y : DataW H × List MemPlace}
    (h : DataW.trod enc Try.prog W 0 (fun _ => true) true fuel 22 [c] = some y) : ∃ (a : Option Addr) (xs : List Int) (cap : Nat), c = .slice a xs.length cap ∧ Rd W a xs ∧ ∀ k, k < xs.length → (Lit.int .i64 (nth xs k)).wf = true := by
  rcases Go.ChangeShapes.open_ints Try.underlying22 Try.underlying3 (by kernel_rfl) h with ⟨hcs, _⟩ | ⟨x, len, cap, zs, hcs, _, hl, hm, hz, _, hcell, hwf⟩
  · simp only [List.cons.injEq, and_true] at hcs
    exact ⟨none, [], 0, hcs, ⟨by simp, fun k hk => by simp at hk⟩, fun k hk => by simp at hk⟩
  · simp only [List.cons.injEq, and_true] at hcs
    simp only [if_true] at hz
    have hlen : (zs.take len).length = len := by rw [List.length_take]; omega
    have hn : ∀ k, k < len → nth (zs.take len) k = zs.getD k 0 := by
      intro k hk
      simp only [nth, List.getD_eq_getElem?_getD, List.getElem?_take, hk, if_true]
    refine ⟨some x, zs.take len, cap, by rw [hlen]; exact hcs, ⟨by rw [hlen]; unfold maxLen at hm; omega, fun k hk => ?_⟩, fun k hk => ?_⟩
    · rw [hlen] at hk
      obtain ⟨b, off, sp⟩ := x
      have h0 := hcell 0 (by omega)
      have hsp : sp = none := by simpa [Addr.add] using World.cell?_spot h0
      subst hsp
      have hk' := hcell k (by omega)
      rw [Addr.add_lit] at hk'
      exact ⟨b, off, rfl, World.block_lt_of_cell? _ _ h0, by rw [hk', hn k hk]⟩
    · rw [hlen] at hk
      rw [hn k hk]
      have hk2 : k < zs.length := by omega
      exact hwf _ (by rw [List.getD_eq_getElem?_getD, List.getElem?_eq_getElem hk2]; exact List.getElem_mem hk2)

theorem own : ownKnob Try.prog.godebug = none := by kernel_rfl
theorem laidOut : laidOutB Try.prog = true := by kernel_rfl
theorem wf_bd {n : Int} (h : (Lit.int .i64 n).wf = true) : -9223372036854775808 ≤ n ∧ n ≤ 9223372036854775807 := by
  simp [Lit.wf, IntKind.min, IntKind.max, IntKind.bits, IntKind.signed] at h
  omega

open Go.ChangeShapes Go.WideShapes Go.ChangeAt Go.RowKit in
set_option maxRecDepth 100000 in
theorem lifted (os : Os) (started : os.Started) (H : Type) (enc : TypeId × Value → H) :
    ReturnsInHanded {} Try.checked os 4 .any (Rows.fnExactCountBiordersSpec.pre6 enc Try.prog Try.f4 Rows.fnExactCountBiordersRow.domain false) (Rows.fnExactCountBiordersSpec.post enc Try.prog Try.f4 false true false false) := by
  refine returnsInHanded_of_change (C := Try.checked) own started (by kernel_rfl) Try.func4
    (ChangeSpec.witness6 (enc := enc) (C := Try.checked) false ⟨#[], #[.int .i64 0, .int .i64 0], []⟩ 8 (by kernel_rfl) (by kernel_rfl) (by kernel_rfl) (by kernel_rfl)) ?_
  intro W base args ds gs before hval0 hW hcnd _
  have hval : ∀ (j : Nat) t v, Try.f4.params[j]? = some t → args[j]? = some v → Value.okWide Try.prog W .any base t v := hval0
  have hW' := hW
  obtain ⟨p, q, hA0, hV, rfl, hfz, hnd⟩ := hW
  have hA : DataW.TrodAll enc Try.prog W 0 (fun _ => true) true Try.f4.params.toList args.toList ds p := hA0
  rw [Try.params4] at hA hval
  obtain ⟨v0, vs0, d0, ds0, p0, q0, hargs, rfl, rfl, h0, r0⟩ := trodAll_cons hA
  obtain ⟨v1, vs1, d1, ds1, p1, q1, rfl, rfl, rfl, h1, r1⟩ := trodAll_cons r0
  obtain ⟨rfl, rfl, rfl⟩ := trodAll_nil r1
  obtain rfl : args = #[v0, v1] := by cases args; simp_all
  obtain ⟨rfl, rfl⟩ := trodVars_none hV
  have lt0 : ∀ x ∈ p0, x.block < W.heap.size := by obtain ⟨m, hm⟩ := h0; exact DataW.trod_lt m _ _ _ hm
  have lt1 : ∀ x ∈ p1, x.block < W.heap.size := by obtain ⟨m, hm⟩ := h1; exact DataW.trod_lt m _ _ _ hm
  obtain ⟨i0, rfl, hd0, hp0, wf0⟩ := open_int Try.underlying3 (hval 0 3 v0 rfl rfl) h0
  obtain ⟨i1, rfl, hd1, hp1, wf1⟩ := open_int Try.underlying3 (hval 1 3 v1 rfl rfl) h1
  clear hA0 hval0
  refine (walk i0 i1 W (wf_bd wf0) (wf_bd wf1)).mono fun e W' ⟨he, bel⟩ => ?_
  subst he
  exact ⟨_, rfl, _, _, _, [], _, [], hW', trodAll_mk1 (shut_bool Try.underlying4 _), (trodAll_cons_mk (Below.trod laidOut (by kernel_rfl) (of_decide_eq_true (by kernel_rfl)) h0 bel lt0) (trodAll_cons_mk (Below.trod laidOut (by kernel_rfl) (of_decide_eq_true (by kernel_rfl)) h1 bel lt1) trodAll_mk0)), rfl, bel.frame _, fun h => by cases h⟩
theorem proved : Rows.FnExactCountBiordersSaid :=
  OpenClaim.holds_of_wide 4 Try.f4 rfl rfl rfl rfl rfl rfl rfl ⟨rfl, rfl, rfl, rfl, rfl⟩ rfl rfl rfl rfl rfl (by kernel_rfl) Try.func4 (by kernel_rfl)
    (of_decide_eq_true (by kernel_rfl)) (by unfold Func.isWrapper; first | (rw [if_pos (by decide +kernel)]; kernel_rfl) | (rw [if_neg (by decide +kernel)]; exact ⟨rfl, rfl⟩))
    (fun os started H enc _ => lifted os started H enc)

end Go.Proofs.Ytcfhhchkhlgjkaa.countBiorders
