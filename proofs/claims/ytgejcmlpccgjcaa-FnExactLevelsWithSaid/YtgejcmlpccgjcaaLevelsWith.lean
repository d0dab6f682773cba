/- PROVED: the law FnExactLevelsWith returns true for every input, and each of its arguments reads afterwards as before. No conditions. -/
import Derived.Test.YtgejcmlpccgjcaaRows
import Derived.WalkKit
import Derived.WalkSpells
import Derived.WalkLawsBesides
import Derived.Deep.QuietTactic
import Derived.BigQuiet
import Derived.ProofKit
import Derived.OpenShut
import Derived.ShutString
import Derived.ChangeOld
import Derived.Below
import Derived.Lib.SmallJoins
import Derived.Lib.Hide
import Derived.Maps.AppendAt
import Derived.OwnWalk
import Derived.Deep.RegionHeld3
namespace Go.Proofs.Ytgejcmlpccgjcaa.levelsWith
open Go Go.RowKit
set_option linter.unusedVariables false
set_option linter.unusedSimpArgs false
set_option maxHeartbeats 400000


/-- a number of a list; a plain function, which the walk leaves alone -/
def nth (xs : List Int) (k : Nat) : Int := xs.getD k 0
theorem nth_get (xs : List Int) (k : Nat) (h : k < xs.length) : nth xs k = xs[k] := by simp [nth, h]
/-- the slice at an address reads as a list -/
structure Rd (w : World) (a : Option Addr) (xs : List Int) : Prop where
  len : xs.length ≤ 9223372036854775807
  cell : ∀ k, k < xs.length → ∃ b off, a = some ⟨b, off, none⟩ ∧ b < w.heap.size ∧ w.cell? ⟨b, off + k, none⟩ = some (.int .i64 (nth xs k))
theorem Rd.below {w w' : World} {a : Option Addr} {xs : List Int} (h : Rd w a xs) (hb : Below w.heap.size w w') : Rd w' a xs :=
  ⟨h.len, fun k hk => by
    obtain ⟨b, off, e, hl, hc⟩ := h.cell k hk
    exact ⟨b, off, e, Nat.lt_of_lt_of_le hl hb.size, (hb.cell (World.block_lt_of_cell? _ _ hc)).trans hc⟩⟩
theorem Rd.mid {w w1 w2 : World} {a : Option Addr} {xs : List Int} {B : Nat} (h : Rd w a xs) (hb : Below B w1 w2) (hB : w.heap.size ≤ B) (h1 : Rd w1 a xs) : Rd w2 a xs :=
  ⟨h.len, fun k hk => by
    obtain ⟨b, off, e, hl, hc⟩ := h.cell k hk
    obtain ⟨b', off', e', hl', hc'⟩ := h1.cell k hk
    rw [e] at e'
    simp only [Option.some.injEq, Addr.mk.injEq, and_true] at e'
    obtain ⟨rfl, rfl⟩ := e'
    exact ⟨b, off, e, Nat.lt_of_lt_of_le hl' hb.size, (hb.cell (by show b < B; omega)).trans hc'⟩⟩
theorem Rd.alloc {w : World} {a : Option Addr} {xs : List Int} (h : Rd w a xs) (o : Obj) : Rd (w.alloc o) a xs :=
  h.below ((Below.refl _ _).alloc (Nat.le_refl _) o)
theorem Rd.same {w w' : World} {a : Option Addr} {xs : List Int} (h : Rd w a xs) (hs : w.heap.size ≤ w'.heap.size)
    (hb : ∀ b off, a = some ⟨b, off, none⟩ → w'.heap[b]? = w.heap[b]?) : Rd w' a xs :=
  ⟨h.len, fun k hk => by
    obtain ⟨b, off, e, hl, hc⟩ := h.cell k hk
    exact ⟨b, off, e, Nat.lt_of_lt_of_le hl hs, (World.cell?_of_block (w := w) (a := ⟨b, off + k, none⟩) (hb b off e)).trans hc⟩⟩
/-- a slice value that owns the row of these integers, in a block from B on -/
def OwnI (w : World) (B : Nat) (v : Value) (xs : List Int) : Prop := w.ownsRow B 3 1 v xs.length (xs.map (Value.int .i64))
theorem OwnI.form {w : World} {B : Nat} {v : Value} {xs : List Int} (h : OwnI w B v xs) : ∃ a cap, v = .slice a xs.length cap := by
  rcases h.2 with ⟨rfl, h0⟩ | ⟨g, cap, cur, rfl, _⟩
  · exact ⟨none, 0, by rw [h0]⟩
  · exact ⟨_, _, rfl⟩
theorem OwnI.rd {w : World} {B n cap : Nat} {a : Option Addr} {xs : List Int} (h : OwnI w B (.slice a n cap) xs) : Rd w a xs := by
  rcases h.2 with ⟨e, h0⟩ | ⟨g, cap', cur, e, hb, hg, hn, hm, hs, ht⟩
  · exact ⟨by omega, fun k hk => by omega⟩
  · simp only [Value.slice.injEq] at e
    obtain ⟨rfl, rfl, rfl⟩ := e
    refine ⟨by unfold maxLen at hm; omega, fun k hk => ⟨g, 0, rfl, (Array.getElem?_eq_some_iff.1 hg).1, ?_⟩⟩
    have := World.ownsRow.cellAt h k (by omega)
    rw [Nat.zero_add, this]
    simp [nth, hk]
theorem OwnI.blk {w : World} {B n cap : Nat} {a : Option Addr} {xs : List Int} (h : OwnI w B (.slice a n cap) xs) : ∀ b off s, a = some ⟨b, off, s⟩ → B ≤ b ∧ b < w.heap.size := by
  intro b off s e
  subst e
  exact World.ownsRow.lt h b rfl
theorem OwnI.kept {w w' : World} {B : Nat} {v : Value} {xs : List Int} {row : Option Nat} (h : OwnI w B v xs) (hg : w.grownBy w' row) (hne : v.ownBlock = none ∨ v.ownBlock ≠ row) : OwnI w' B v xs := World.ownsRow.kept h hg hne
theorem OwnI.mono {w : World} {B B' : Nat} {v : Value} {xs : List Int} (h : OwnI w B v xs) (hB : B' ≤ B) : OwnI w B' v xs := by
  refine ⟨h.1, ?_⟩
  rcases h.2 with hn | ⟨g, cap, cur, e, hb, rest⟩
  · exact .inl hn
  · exact .inr ⟨g, cap, cur, e, by omega, rest⟩
theorem OwnI.below {w w' : World} {B B' : Nat} {v : Value} {xs : List Int} (h : OwnI w B v xs) (hb : Below B' w w') (hB : w.heap.size ≤ B') : OwnI w' B v xs := by
  refine ⟨h.1, ?_⟩
  rcases h.2 with hn | ⟨g, cap, cur, e, hb', hg, rest⟩
  · exact .inl hn
  · refine .inr ⟨g, cap, cur, e, hb', ?_, rest⟩
    rw [hb.block g (by have := (Array.getElem?_eq_some_iff.1 hg).1; omega)]
    exact hg
theorem ret_bool {a b : Bool} (h : a = b) : Ending.returned (.bool a) = .returned (.bool b) := by rw [h]
theorem ret_int {a b : Int} (h : a = b) : Ending.returned (.int .i64 a) = .returned (.int .i64 b) := by rw [h]
theorem val_int {a b : Int} (h : a = b) : Value.int .i64 a = .int .i64 b := by rw [h]
theorem grown_below {w w' : World} {g : Nat} (h : w.grownBy w' (some g)) (B : Nat) (hB : B ≤ g) (hs : B ≤ w.heap.size) : Below B w w' :=
  ⟨h.os, h.tape, h.output, h.size, fun k hk => h.block k (by omega) (by intro e; simp only [Option.some.injEq] at e; omega)⟩
theorem below_grown {w w' : World} {B : Nat} (h : Below B w w') (hB : w.heap.size ≤ B) (row : Option Nat) : w.grownBy w' row :=
  ⟨h.os, h.tape, h.output, h.size, fun k hk _ => h.block k (by omega)⟩
theorem bcell {W w1 : World} (hb : Below W.heap.size W w1) : (∀ b o, b < W.heap.size → w1.cell? ⟨b, o, none⟩ = W.cell? ⟨b, o, none⟩) ∧ (∀ b o, b < W.heap.size → w1.frozen? ⟨b, o, none⟩ = W.frozen? ⟨b, o, none⟩) :=
  ⟨fun b o h => hb.cell (p := ⟨b, o, none⟩) h, fun b o h => hb.frozen (p := ⟨b, o, none⟩) h⟩
theorem infoInt : (Try.prog.info? 3).map (fun i => (i.zero, i.size, i.bytes)) = some (some (.int .i64 0), 1, 8) := by kernel_rfl
theorem OwnI.setBelow {w : World} {B : Nat} {v : Value} {xs : List Int} (h : OwnI w B v xs) {p : Addr} (hp : p.block < B) (u : Value) : OwnI (w.setCell p u) B v xs := ownsRow_setCell_below h hp u
theorem OwnI.alloc {w : World} {B : Nat} {v : Value} {xs : List Int} (h : OwnI w B v xs) (o : Obj) : OwnI (w.alloc o) B v xs := h.below ((Below.refl _ _).alloc (Nat.le_refl _) o) (Nat.le_refl _)
theorem Below.mono' {B B' : Nat} {w w' : World} (h : Below B w w') (hB : B' ≤ B) : Below B' w w' := h.mono hB
/-- a block that holds two cells -/
def Box2 (w : World) (b : Nat) (u v : Value) : Prop := b < w.heap.size ∧ w.cell? ⟨b, 0, none⟩ = some u ∧ w.cell? ⟨b, 1, none⟩ = some v
theorem Box2.below {w w' : World} {b : Nat} {u v : Value} (h : Box2 w b u v) (hb : Below w.heap.size w w') : Box2 w' b u v :=
  ⟨Nat.lt_of_lt_of_le h.1 hb.size, (hb.cell (p := ⟨b, 0, none⟩) h.1).trans h.2.1, (hb.cell (p := ⟨b, 1, none⟩) h.1).trans h.2.2⟩
theorem Box2.new (w : World) (u v : Value) (t : TypeId) : Box2 (w.alloc (.cells #[u, v] t)) w.heap.size u v :=
  ⟨by simp, by simp, by simp⟩
theorem Box2.kept {w w' : World} {b : Nat} {u v : Value} {row : Option Nat} (h : Box2 w b u v) (hg : w.grownBy w' row) (hne : some b ≠ row) : Box2 w' b u v :=
  ⟨Nat.lt_of_lt_of_le h.1 hg.size, hg.cell h.2.1 hne, hg.cell h.2.2 hne⟩
theorem OwnI.lt {w : World} {B : Nat} {v : Value} {xs : List Int} (h : OwnI w B v xs) : ∀ b, v.ownBlock = some b → B ≤ b ∧ b < w.heap.size := World.ownsRow.lt h
theorem OwnI.cut {w : World} {B : Nat} {v : Value} {xs : List Int} (h : OwnI w B v xs) {U : Nat} (hU : w.heap.size ≤ U) : ∀ b, v.ownBlock = some b → B ≤ b ∧ b < U := fun b e => ⟨(h.lt b e).1, Nat.lt_of_lt_of_le (h.lt b e).2 hU⟩
/-- a block of two cells that may be written -/
def Var2 (w : World) (b : Nat) (u v : Value) : Prop := Box2 w b u v ∧ w.frozen? ⟨b, 0, none⟩ = false ∧ w.frozen? ⟨b, 1, none⟩ = false
theorem Var2.below {w w' : World} {b : Nat} {u v : Value} (h : Var2 w b u v) (hb : Below w.heap.size w w') : Var2 w' b u v :=
  ⟨h.1.below hb, (hb.frozen (p := ⟨b, 0, none⟩) h.1.1).trans h.2.1, (hb.frozen (p := ⟨b, 1, none⟩) h.1.1).trans h.2.2⟩
theorem Var2.new (w : World) (u v : Value) (t : TypeId) : Var2 (w.alloc (.cells #[u, v] t)) w.heap.size u v :=
  ⟨Box2.new w u v t, by simp, by simp⟩
theorem Var2.alloc {w : World} {b : Nat} {u v : Value} (h : Var2 w b u v) (o : Obj) : Var2 (w.alloc o) b u v := h.below ((Below.refl _ _).alloc (Nat.le_refl _) o)
theorem Var2.kept {w w' : World} {b : Nat} {u v : Value} {row : Option Nat} (h : Var2 w b u v) (hg : w.grownBy w' row) (hne : some b ≠ row) : Var2 w' b u v :=
  ⟨h.1.kept hg hne, (World.frozen?_of_block (w := w) (a := ⟨b, 0, none⟩) (hg.block b h.1.1 hne)).trans h.2.1, (World.frozen?_of_block (w := w) (a := ⟨b, 1, none⟩) (hg.block b h.1.1 hne)).trans h.2.2⟩
theorem Var2.set {w : World} {b : Nat} {u v : Value} (h : Var2 w b u v) (u' v' : Value) : Var2 ((w.setCell ⟨b, 0, none⟩ u').setCell ⟨b, 1, none⟩ v') b u' v' := by
  refine ⟨⟨by simpa using h.1.1, ?_, ?_⟩, by simpa using h.2.1, by simpa using h.2.2⟩
  · rw [World.cell?_setCell_other _ _ _ _ (by simp), World.cell?_setCell_same _ _ _ h.1.2.1]
  · rw [World.cell?_setCell_same _ _ _ (u := v) (by rw [World.cell?_setCell_other _ _ _ _ (by simp)]; exact h.1.2.2)]
theorem grown_set (w : World) (p : Addr) (u : Value) : w.grownBy (w.setCell p u) (some p.block) :=
  ⟨rfl, rfl, rfl, by simp, fun k hk hn => Below.heap_setCell w p u k (fun e => hn (by rw [e]))⟩
theorem Var2.set1 {w : World} {b : Nat} {u v : Value} (h : Var2 w b u v) (v' : Value) : Var2 (w.setCell ⟨b, 1, none⟩ v') b u v' := by
  refine ⟨⟨by simpa using h.1.1, ?_, ?_⟩, by simpa using h.2.1, by simpa using h.2.2⟩
  · rw [World.cell?_setCell_other _ _ _ _ (by simp)]; exact h.1.2.1
  · rw [World.cell?_setCell_same _ _ _ h.1.2.2]
theorem Box2.set {w : World} {b : Nat} {u v : Value} (h : Box2 w b u v) {p : Addr} (x : Value) (hne : b ≠ p.block) : Box2 (w.setCell p x) b u v :=
  h.kept (grown_set w p x) (by simpa using hne)
theorem Var2.other {w : World} {b : Nat} {u v : Value} (h : Var2 w b u v) {p : Addr} (x : Value) (hne : b ≠ p.block) : Var2 (w.setCell p x) b u v :=
  h.kept (grown_set w p x) (by simpa using hne)
theorem ne_own {v : Value} {b : Nat} (h : ∀ c, v.ownBlock = some c → c ≠ b) : some b ≠ v.ownBlock := fun e => h b e.symm rfl
theorem grown_alloc_set {w w1 : World} {r : Option Nat} {o : Obj} (h : (w.alloc o).grownBy w1 r) : w.grownBy w1 r :=
  ⟨h.os, h.tape, h.output, by have := h.size; simp at this; omega, fun k hk hn => (h.block k (by simp; omega) hn).trans (Below.heap_alloc w o k hk)⟩
theorem grown_trans {w w1 w2 : World} {r : Option Nat} (h1 : w.grownBy w1 r) (h2 : w1.grownBy w2 r) : w.grownBy w2 r :=
  ⟨h2.os.trans h1.os, h2.tape.trans h1.tape, h2.output.trans h1.output, Nat.le_trans h1.size h2.size, fun k hk hn => (h2.block k (by have := h1.size; omega) hn).trans (h1.block k hk hn)⟩
theorem OwnI.nil (w : World) (B : Nat) : OwnI w B (.slice none 0 0) [] := World.ownsRow_nil _ _ _ _
theorem below_of_grown {w w' : World} {v : Value} {B : Nat} (hg : w.grownBy w' v.ownBlock) (hB : ∀ b, v.ownBlock = some b → B ≤ b) (hs : B ≤ w.heap.size) : Below B w w' :=
  ⟨hg.os, hg.tape, hg.output, hg.size, fun k hk => hg.block k (by omega) (fun e => by have := hB k e.symm; omega)⟩

def inB (n lo hi : Int) : Bool := decide (lo ≤ n) && decide (n ≤ hi)
theorem inB_iff {n lo hi : Int} : inB n lo hi = true ↔ lo ≤ n ∧ n ≤ hi := by simp [inB]
theorem inB_no {n lo hi : Int} : inB n lo hi = false ↔ n < lo ∨ hi < n := by
  rw [← Bool.not_eq_true, inB_iff]
  omega

def allB (xs : List Int) (lo hi : Int) : Bool := xs.all (fun x => inB x lo hi)
theorem allB_take (xs : List Int) (lo hi : Int) (k : Nat) (h : k < xs.length) : allB (xs.take (k+1)) lo hi = (allB (xs.take k) lo hi && inB (nth xs k) lo hi) := by
  simp only [allB]
  rw [List.take_succ_eq_append_getElem h, List.all_append]
  simp [nth, h]
theorem allB_false {xs : List Int} {lo hi : Int} {k : Nat} (h : k < xs.length) (h1 : inB (nth xs k) lo hi = false) : allB xs lo hi = false := by
  simp only [allB, List.all_eq_false]
  exact ⟨xs[k], List.getElem_mem h, by simpa [nth, h] using h1⟩
theorem allB_nth {xs : List Int} {lo hi : Int} (h : allB xs lo hi = true) {k : Nat} (hk : k < xs.length) : lo ≤ nth xs k ∧ nth xs k ≤ hi := by
  simp only [allB, List.all_eq_true] at h
  have := inB_iff.1 (h _ (List.getElem_mem hk))
  rwa [← nth_get xs k hk] at this

def memB (es : List Int) (i : Int) : Bool := (List.range es.length).any (fun k => nth es k == i)
theorem memB_iff {es : List Int} {i : Int} : memB es i = true ↔ ∃ k, k < es.length ∧ nth es k = i := by simp [memB]
theorem l1Has_any (a : Option Addr) (es : List Int) (cap : Nat) (i : Int) (w : World) (hx : Rd w a es) :
    Calls Try.prog 77 #[.slice a es.length cap, .int .i64 i] w fun e w' => e = .returned (.bool (memB es i)) ∧ w = w' := by
  have hlen := hx.len
  go_enter Try.func77, Try.ntmps77
  go_wp2_with fail
  go_loop [9] (fun i' => ∃ k : Nat, k ≤ es.length ∧ i' = .int .i64 k ∧ ∀ j, j < k → nth es j ≠ i) (fun i' => es.length - (intOf i').toNat)
  case atStart => exact ⟨0, Nat.zero_le _, rfl, fun j hj => by omega⟩
  case round =>
    obtain ⟨k, hk, rfl, hall⟩ := hrel
    have HA := Lib.hid hall
    clear hall
    by_cases hlt : k < es.length
    · obtain ⟨b, off, rfl, hbl, hc⟩ := hx.cell k hlt
      cases he : (nth es k == i)
      · have HE := Lib.hid (by simpa using he : nth es k ≠ i)
        go_wp2_with fail
        go_round
        case rel =>
          refine ⟨k + 1, by omega, by go_num, fun j hj => ?_⟩
          by_cases e : j = k
          · rw [e]; exact HE.out
          · exact HA.out j (by omega)
        case measure => simp [intOf]; omega
      · have HM := Lib.hid (memB_iff.2 ⟨k, hlt, by simpa using he⟩)
        go_wp2_with fail
        go_ret
        exact ⟨ret_bool HM.out.symm, rfl⟩
    · obtain rfl : k = es.length := by omega
      have HM : Hid (memB es i = false) := by
        rw [Hid, ← Bool.not_eq_true, memB_iff]
        rintro ⟨j, hj, e⟩
        exact HA.out j hj e
      go_wp2_with fail
      go_ret
      exact ⟨ret_bool HM.out.symm, rfl⟩

/-- is it a relation? -/
def relB (n : Int) (xs : List Int) : Bool := inB n 0 10 && decide ((xs.length : Int) = n) && allB xs 0 (2 ^ n.toNat - 1)
theorem relB_iff {n : Int} {xs : List Int} : relB n xs = true ↔ (0 ≤ n ∧ n ≤ 10) ∧ (xs.length : Int) = n ∧ allB xs 0 (2 ^ n.toNat - 1) = true := by
  simp [relB, inB_iff, and_assoc]
theorem pow10 {n : Nat} (h : n ≤ 10) : (1 : Int) ≤ 2 ^ n ∧ (2 : Int) ^ n ≤ 1024 := by
  have h1 : 2 ^ n ≤ 2 ^ 10 := Nat.pow_le_pow_right (by omega) h
  have h2 : 1 ≤ 2 ^ n := Nat.one_le_two_pow
  have h3 : ((2 ^ n : Nat) : Int) = (2 : Int) ^ n := by simp
  omega
theorem full_eq {n : Int} (h0 : 0 ≤ n) (h1 : n ≤ 10) : wrap64 (wrap64 (2 ^ n.toNat) - 1) = 2 ^ n.toNat - 1 := by
  have h2 := pow10 (n := n.toNat) (by omega)
  generalize (2 : Int) ^ n.toNat = p at *
  rw [IntWalk.wrap64_in p ⟨by omega, by omega⟩, IntWalk.wrap64_in _ ⟨by omega, by omega⟩]
structure RelP (n : Int) (xs : List Int) : Prop where
  n0 : 0 ≤ n
  n1 : n ≤ 10
  len : (xs.length : Int) = n
  pos : ∀ k, k < xs.length → 0 ≤ nth xs k
  lt : ∀ k, k < xs.length → nth xs k < 2 ^ xs.length
  small : ∀ k, k < xs.length → nth xs k < 1024
theorem relB_p {n : Int} {xs : List Int} (h : relB n xs = true) : RelP n xs := by
  obtain ⟨⟨h0, h1⟩, h2, h3⟩ := relB_iff.1 h
  have e : n.toNat = xs.length := by omega
  rw [e] at h3
  have hp := pow10 (n := xs.length) (by omega)
  exact ⟨h0, h1, h2, fun k hk => (allB_nth h3 hk).1, fun k hk => by have := (allB_nth h3 hk).2; omega, fun k hk => by have := (allB_nth h3 hk).2; omega⟩

theorem wrap64_small (n : Int) (h0 : -9223372036854775808 ≤ n) (h1 : n ≤ 9223372036854775807) : IntKind.i64.wrap n = n := by
  simp only [IntKind.wrap, IntKind.bits, IntKind.signed]
  simp
  omega
theorem i64_wrap (n : Int) : IntKind.i64.wrap n = wrap64 n := IntWalk.i64_left n
theorem ofInt_i64 (a : Nat) (ha : a < 9223372036854775808) : (BitVec.ofInt 64 (a : Int)).toNat = a := by
  simp
  omega
theorem and_nat (a b : Nat) (ha : a < 9223372036854775808) (hb : b < 9223372036854775808) : bits .and .i64 (a : Int) (b : Int) = ((a &&& b : Nat) : Int) := by
  have hx : a &&& b < 2 ^ 63 := Nat.and_lt_two_pow _ (by omega)
  show IntKind.i64.wrap ((BitVec.ofInt 64 (a : Int) &&& BitVec.ofInt 64 (b : Int)).toNat : Int) = _
  rw [BitVec.toNat_and, ofInt_i64 a ha, ofInt_i64 b hb, wrap64_small _ (by omega) (by omega)]
theorem or_nat (a b : Nat) (ha : a < 9223372036854775808) (hb : b < 9223372036854775808) : bits .or .i64 (a : Int) (b : Int) = ((a ||| b : Nat) : Int) := by
  have hx : a ||| b < 2 ^ 63 := Nat.or_lt_two_pow (by omega) (by omega)
  show IntKind.i64.wrap ((BitVec.ofInt 64 (a : Int) ||| BitVec.ofInt 64 (b : Int)).toNat : Int) = _
  rw [BitVec.toNat_or, ofInt_i64 a ha, ofInt_i64 b hb, wrap64_small _ (by omega) (by omega)]
/-- a set without the elements of another one -/
def sub (a b : Nat) : Nat := a ^^^ (a &&& b)
theorem testBit_sub (a b i : Nat) : (sub a b).testBit i = (a.testBit i && !b.testBit i) := by
  simp [sub, Nat.testBit_xor, Nat.testBit_and]
  cases a.testBit i <;> cases b.testBit i <;> rfl
theorem sub_lt {a b n : Nat} (h : a < 2 ^ n) : sub a b < 2 ^ n := by
  unfold sub
  exact Nat.xor_lt_two_pow h (by rw [Nat.and_comm]; exact Nat.and_lt_two_pow _ h)
theorem sub_nat (a b : Nat) (ha : a < 9223372036854775808) (hb : b < 9223372036854775808) : bits .andNot .i64 (a : Int) (b : Int) = ((sub a b : Nat) : Int) := by
  have hs : sub a b < 2 ^ 63 := sub_lt (by omega)
  show IntKind.i64.wrap ((BitVec.ofInt 64 (a : Int) &&& ~~~BitVec.ofInt 64 (b : Int)).toNat : Int) = _
  have e : (BitVec.ofInt 64 (a : Int) &&& ~~~BitVec.ofInt 64 (b : Int)).toNat = sub a b := by
    apply Nat.eq_of_testBit_eq
    intro i
    rw [BitVec.testBit_toNat, BitVec.getLsbD_and, BitVec.getLsbD_not, testBit_sub, ← BitVec.testBit_toNat, ← BitVec.testBit_toNat, ofInt_i64 a ha, ofInt_i64 b hb]
    by_cases hi : i < 64
    · simp [hi]
    · have : a.testBit i = false := Nat.testBit_lt_two_pow (Nat.lt_of_lt_of_le (by omega : a < 2 ^ 64) (Nat.pow_le_pow_right (by omega) (by omega)))
      simp [this]
  rw [e, wrap64_small _ (by omega) (by omega)]
theorem shr_nat (s i : Nat) (hs : s < 9223372036854775808) : (s : Int) / (2 ^ min i 64) = ((s >>> i : Nat) : Int) := by
  rw [Nat.shiftRight_eq_div_pow]
  by_cases h : i ≤ 64
  · rw [Nat.min_eq_left h]
    simp
  · rw [Nat.min_eq_right (by omega)]
    have : 2 ^ 64 ≤ 2 ^ i := Nat.pow_le_pow_right (by omega) (by omega)
    rw [Nat.div_eq_of_lt (by omega)]
    omega
theorem bit_and (s i : Nat) (hs : s < 9223372036854775808) : (bits .and .i64 ((s >>> i : Nat) : Int) 1 == 1) = s.testBit i := by
  have h1 : s >>> i ≤ s := by rw [Nat.shiftRight_eq_div_pow]; exact Nat.div_le_self _ _
  have := and_nat (s >>> i) 1 (by omega) (by omega)
  rw [show ((1 : Nat) : Int) = 1 from rfl] at this
  rw [this, Nat.testBit, Nat.and_one_is_mod, Nat.and_comm, Nat.and_one_is_mod]
  rcases Nat.mod_two_eq_zero_or_one (s >>> i) with h | h <;> simp [h]
theorem bit_mod (s i : Nat) : (((s >>> i : Nat) : Int) % 2 == 1) = s.testBit i := by
  rw [Nat.testBit, Nat.and_comm, Nat.and_one_is_mod]
  rcases Nat.mod_two_eq_zero_or_one (s >>> i) with h | h
  · have h2 : ((s >>> i : Nat) : Int) % 2 = 0 := by omega
    rw [h2, h]; rfl
  · have h2 : ((s >>> i : Nat) : Int) % 2 = 1 := by omega
    rw [h2, h]; rfl
theorem bit_tmod (s i : Nat) : (((s >>> i : Nat) : Int).tmod 2 == 1) = s.testBit i := by
  rw [Int.tmod_eq_emod_of_nonneg (Int.natCast_nonneg _), bit_mod]
/-- is i in the set s? -/
def hasB (s i : Int) : Bool := s.toNat.testBit i.toNat
theorem has_and {s i : Int} (h0 : 0 ≤ s) (h1 : s ≤ 9223372036854775807) (hi : 0 ≤ i) : (bits .and .i64 (s / 2 ^ min i.toNat 64) 1 == 1) = hasB s i := by
  obtain ⟨S, rfl⟩ := Int.eq_ofNat_of_zero_le h0
  rw [shr_nat S _ (by omega), bit_and S _ (by omega)]
  rfl
theorem has_mod {s i : Int} (h0 : 0 ≤ s) (h1 : s ≤ 9223372036854775807) (hi : 0 ≤ i) : ((s / 2 ^ min i.toNat 64).tmod 2 == 1) = hasB s i := by
  obtain ⟨S, rfl⟩ := Int.eq_ofNat_of_zero_le h0
  rw [shr_nat S _ (by omega), bit_tmod S]
  rfl
theorem pow_w {k : Nat} (h : k < 62) : wrap64 (2 ^ k) = ((2 ^ k : Nat) : Int) := by
  have : 2 ^ k ≤ 2 ^ 61 := Nat.pow_le_pow_right (by omega) (by omega)
  rw [show ((2:Int) ^ k) = ((2 ^ k : Nat) : Int) by simp]
  generalize hp : 2 ^ k = p at *
  exact IntWalk.wrap64_in _ ⟨by omega, by omega⟩
theorem or_bit {b k : Nat} (hb : b < 4611686018427387904) (hk : k < 62) : bits .or .i64 (b : Int) (wrap64 (2 ^ k)) = ((b ||| 2 ^ k : Nat) : Int) := by
  rw [pow_w hk]
  have : 2 ^ k ≤ 2 ^ 61 := Nat.pow_le_pow_right (by omega) (by omega)
  exact or_nat _ _ (by omega) (by omega)
theorem or_i {a b : Int} (ha : 0 ≤ a) (ha1 : a < 9223372036854775808) (hb : 0 ≤ b) (hb1 : b < 9223372036854775808) : bits .or .i64 a b = ((a.toNat ||| b.toNat : Nat) : Int) := by
  obtain ⟨A, rfl⟩ := Int.eq_ofNat_of_zero_le ha
  obtain ⟨B, rfl⟩ := Int.eq_ofNat_of_zero_le hb
  exact or_nat A B (by omega) (by omega)
theorem sub_i {a b : Int} (ha : 0 ≤ a) (ha1 : a < 9223372036854775808) (hb : 0 ≤ b) (hb1 : b < 9223372036854775808) : bits .andNot .i64 a b = ((sub a.toNat b.toNat : Nat) : Int) := by
  obtain ⟨A, rfl⟩ := Int.eq_ofNat_of_zero_le ha
  obtain ⟨B, rfl⟩ := Int.eq_ofNat_of_zero_le hb
  exact sub_nat A B (by omega) (by omega)
theorem or_lt {a b n : Nat} (ha : a < 2 ^ n) (hb : b < 2 ^ n) : a ||| b < 2 ^ n := Nat.or_lt_two_pow ha hb
theorem two_lt {k n : Nat} (h : k < n) : 2 ^ k < 2 ^ n := Nat.pow_lt_pow_right (by omega) h
theorem testBit_two (k i : Nat) : (2 ^ k).testBit i = decide (k = i) := Nat.testBit_two_pow

/-- the elements of a set that are less than k, in order -/
def elemsTo (s : Nat) : Nat → List Int
  | 0 => []
  | k+1 => if s.testBit k then elemsTo s k ++ [(k : Int)] else elemsTo s k
theorem elemsTo_len (s : Nat) : ∀ k, (elemsTo s k).length ≤ k
  | 0 => by simp [elemsTo]
  | k+1 => by
    have := elemsTo_len s k
    simp only [elemsTo]
    split <;> simp <;> omega
theorem mem_elemsTo (s : Nat) (x : Int) : ∀ k, x ∈ elemsTo s k ↔ ∃ i : Nat, i < k ∧ s.testBit i = true ∧ x = i
  | 0 => by simp [elemsTo]
  | k+1 => by
    have ih := mem_elemsTo s x k
    simp only [elemsTo]
    cases hb : s.testBit k
    · rw [if_neg (by simp), ih]
      constructor
      · rintro ⟨i, h1, h2, h3⟩
        exact ⟨i, by omega, h2, h3⟩
      · rintro ⟨i, h1, h2, h3⟩
        have : i ≠ k := fun e => by rw [e, hb] at h2; cases h2
        exact ⟨i, by omega, h2, h3⟩
    · rw [if_pos rfl, List.mem_append, ih]
      constructor
      · rintro (⟨i, h1, h2, h3⟩ | h)
        · exact ⟨i, by omega, h2, h3⟩
        · exact ⟨k, by omega, hb, by simpa using h⟩
      · rintro ⟨i, h1, h2, h3⟩
        by_cases e : i = k
        · exact .inr (by simp [h3, e])
        · exact .inl ⟨i, by omega, h2, h3⟩
theorem elemsTo_more (s k : Nat) (h : s >>> k = 0) : ∀ m, elemsTo s (k + m) = elemsTo s k
  | 0 => rfl
  | m+1 => by
    have hb : s.testBit (k + m) = false := by
      rw [Nat.testBit]
      have : s >>> (k + m) = 0 := by rw [Nat.shiftRight_add, h]; simp
      simp [this]
    show elemsTo s (k + m + 1) = _
    simp only [elemsTo, hb]
    exact elemsTo_more s k h m
/-- all elements of a set below 1024 -/
def elems (s : Nat) : List Int := elemsTo s 10
theorem elems_at {s k : Nat} (h : s >>> k = 0) (hk : k ≤ 10) : elemsTo s k = elems s := by
  have := elemsTo_more s k h (10 - k)
  rw [show k + (10 - k) = 10 from by omega] at this
  exact this.symm
theorem elems_len (s : Nat) : (elems s).length ≤ 10 := elemsTo_len s 10
theorem mem_elems {s : Nat} (hs : s < 1024) {x : Int} : x ∈ elems s ↔ ∃ i : Nat, s.testBit i = true ∧ x = i := by
  rw [elems, mem_elemsTo]
  constructor
  · rintro ⟨i, _, h2, h3⟩
    exact ⟨i, h2, h3⟩
  · rintro ⟨i, h2, h3⟩
    refine ⟨i, ?_, h2, h3⟩
    rcases Nat.lt_or_ge i 10 with h | h
    · exact h
    · have : s < 2 ^ i := Nat.lt_of_lt_of_le hs (Nat.pow_le_pow_right (by omega : 0 < 2) h)
      rw [Nat.testBit_lt_two_pow this] at h2
      cases h2
theorem nth_mem {xs : List Int} {k : Nat} (h : k < xs.length) : nth xs k ∈ xs := by
  rw [nth_get xs k h]; exact List.getElem_mem h
theorem mem_nth {xs : List Int} {x : Int} (h : x ∈ xs) : ∃ k, k < xs.length ∧ nth xs k = x := by
  obtain ⟨k, hk, e⟩ := List.getElem_of_mem h
  exact ⟨k, hk, by rw [nth_get xs k hk, e]⟩

/-- the set of the first k numbers -/
def usedTo (xs : List Int) : Nat → Nat
  | 0 => 0
  | k+1 => usedTo xs k ||| 2 ^ (nth xs k).toNat
theorem usedTo_bit (xs : List Int) (i : Nat) : ∀ k, (usedTo xs k).testBit i = true ↔ ∃ j, j < k ∧ (nth xs j).toNat = i
  | 0 => by simp [usedTo]
  | k+1 => by
    have ih := usedTo_bit xs i k
    rw [usedTo, Nat.testBit_or, testBit_two, Bool.or_eq_true, ih, decide_eq_true_eq]
    constructor
    · rintro (⟨j, h1, h2⟩ | h)
      · exact ⟨j, by omega, h2⟩
      · exact ⟨k, by omega, h⟩
    · rintro ⟨j, h1, h2⟩
      by_cases e : j = k
      · subst e; exact .inr h2
      · exact .inl ⟨j, by omega, h2⟩
theorem usedTo_lt {xs : List Int} (h : ∀ j, j < xs.length → (nth xs j).toNat < 10) : ∀ k, k ≤ xs.length → usedTo xs k < 1024
  | 0, _ => by simp [usedTo]
  | k+1, hk => by
    have h1 := usedTo_lt h k (by omega)
    have h2 := two_lt (h k (by omega))
    exact or_lt (n := 10) (by omega) (by omega)
/-- is with each element above 0 the one below it in a set? -/
def downB (s : Nat) : Bool := (List.range 9).all fun k => !s.testBit (k+1) || s.testBit k
theorem downB_iff {s : Nat} : downB s = true ↔ ∀ k, k < 9 → s.testBit (k+1) = true → s.testBit k = true := by
  simp only [downB, List.all_eq_true, List.mem_range]
  constructor
  · intro h k hk h1
    have := h k hk
    rw [h1] at this
    simpa using this
  · intro h k hk
    cases h1 : s.testBit (k+1)
    · rfl
    · rw [h k hk h1]; rfl
def fullB (s : Nat) : Bool := (s : Int) == 2 ^ (((elems s).length : Nat) : Int).toNat - 1
theorem full_all : ∀ s : Fin 1024, fullB s.val = downB s.val := by decide +kernel
theorem full_down {s : Nat} (h : s < 1024) : fullB s = downB s := full_all ⟨s, h⟩
/-- are they levels? -/
def lvB (xs : List Int) : Bool := decide (xs.length ≤ 10) && (allB xs 0 10 && (List.range xs.length).all fun k => decide (nth xs k ≤ 0) || memB xs (nth xs k - 1))
def lvOk (xs : List Int) (k : Nat) : Bool := decide (nth xs k ≤ 0) || memB xs (nth xs k - 1)
theorem lvB_iff {xs : List Int} : lvB xs = true ↔ xs.length ≤ 10 ∧ allB xs 0 10 = true ∧ ∀ k, k < xs.length → lvOk xs k = true := by
  simp [lvB, lvOk]
theorem pig : ∀ (n : Nat) (l : List Int), (∀ m : Nat, m < n → (m : Int) ∈ l) → n ≤ l.length
  | 0, _, _ => Nat.zero_le _
  | n+1, l, h => by
    have h1 := h n (by omega)
    have h2 := pig n (l.erase (n : Int)) (fun m hm => (List.mem_erase_of_ne (by omega)).2 (h m (by omega)))
    rw [List.length_erase_of_mem h1] at h2
    have := List.length_pos_of_mem h1
    omega
theorem memB_mem {xs : List Int} {i : Int} : memB xs i = true ↔ i ∈ xs := by
  rw [memB_iff]
  constructor
  · rintro ⟨k, hk, rfl⟩; exact nth_mem hk
  · intro h; exact mem_nth h
theorem lv_down {xs : List Int} (h : ∀ k, k < xs.length → lvOk xs k = true) : ∀ v : Nat, (v : Int) ∈ xs → ∀ m : Nat, m ≤ v → (m : Int) ∈ xs
  | 0, hv, m, hm => by
    obtain rfl : m = 0 := by omega
    exact hv
  | v+1, hv, m, hm => by
    by_cases e : m = v + 1
    · subst e; exact hv
    · obtain ⟨k, hk, e2⟩ := mem_nth hv
      have h1 := h k hk
      simp only [lvOk, Bool.or_eq_true, decide_eq_true_eq] at h1
      rcases h1 with h1 | h1
      · omega
      · rw [memB_mem, e2] at h1
        have h2 : (v : Int) ∈ xs := by
          have : ((v + 1 : Nat) : Int) - 1 = (v : Int) := by omega
          rw [← this]; exact h1
        exact lv_down h v h2 m (by omega)
theorem lv_lt {xs : List Int} (h : lvB xs = true) {k : Nat} (hk : k < xs.length) : 0 ≤ nth xs k ∧ nth xs k < (xs.length : Int) := by
  obtain ⟨_, h2, h3⟩ := lvB_iff.1 h
  have ⟨h0, _⟩ := allB_nth h2 hk
  obtain ⟨v, hv⟩ := Int.eq_ofNat_of_zero_le h0
  have h4 : (v : Int) ∈ xs := by rw [← hv]; exact nth_mem hk
  have := pig (v+1) xs (fun m hm => lv_down h3 v h4 m (by omega))
  omega
theorem lv_full {xs : List Int} (h10 : xs.length ≤ 10) (hall : ∀ k, k < xs.length → 0 ≤ nth xs k ∧ nth xs k < (xs.length : Int)) : lvB xs = downB (usedTo xs xs.length) := by
  rw [Bool.eq_iff_iff, lvB_iff, downB_iff]
  constructor
  · rintro ⟨_, _, h3⟩ k hk h1
    obtain ⟨j, hj, e⟩ := (usedTo_bit _ _ _).1 h1
    have h4 := h3 j hj
    have := hall j hj
    simp only [lvOk, Bool.or_eq_true, decide_eq_true_eq] at h4
    rcases h4 with h4 | h4
    · omega
    · obtain ⟨i, hi, e2⟩ := memB_iff.1 h4
      exact (usedTo_bit _ _ _).2 ⟨i, hi, by omega⟩
  · intro h
    refine ⟨h10, ?_, fun k hk => ?_⟩
    · simp only [allB, List.all_eq_true]
      intro x hx
      obtain ⟨k, hk, rfl⟩ := mem_nth hx
      have := hall k hk
      rw [inB_iff]; omega
    · have := hall k hk
      simp only [lvOk, Bool.or_eq_true, decide_eq_true_eq]
      by_cases h0 : nth xs k ≤ 0
      · exact .inl h0
      · right
        obtain ⟨j, hj, e⟩ := (usedTo_bit _ _ _).1 (h ((nth xs k).toNat - 1) (by omega) ((usedTo_bit _ _ _).2 ⟨k, hk, by omega⟩))
        have := hall j hj
        exact memB_iff.2 ⟨j, hj, by omega⟩

/-- the first one of the longest lists whose first element is below k, if the rest behind i is told -/
def bestTo (rest : Nat → List Int) (S : Nat) : Nat → List Int
  | 0 => []
  | k+1 => if S.testBit k then (if (bestTo rest S k).length ≤ (rest k).length then (k : Int) :: rest k else bestTo rest S k) else bestTo rest S k
theorem bestTo_congr {r r' : Nat → List Int} {S : Nat} : ∀ k, (∀ i, i < k → S.testBit i = true → r i = r' i) → bestTo r S k = bestTo r' S k
  | 0, _ => rfl
  | k+1, h => by
    have ih := bestTo_congr k (fun i hi => h i (by omega))
    simp only [bestTo]
    cases hb : S.testBit k
    · simp [ih]
    · rw [ih, h k (by omega) hb]
theorem bestTo_len {r : Nat → List Int} {S d : Nat} : ∀ k, (∀ i, i < k → (r i).length ≤ d) → (bestTo r S k).length ≤ d + 1
  | 0, _ => by simp [bestTo]
  | k+1, h => by
    have ih := bestTo_len (S := S) k (fun i hi => h i (by omega))
    have h2 := h k (by omega)
    simp only [bestTo]
    split
    · split
      · simp; omega
      · exact ih
    · exact ih
def lngD (fl : List Int) : Nat → Nat → List Int
  | 0, _ => []
  | d+1, S => bestTo (fun i => lngD fl d (S &&& (nth fl i).toNat)) S fl.length
theorem lngD_len (fl : List Int) : ∀ d S, (lngD fl d S).length ≤ d
  | 0, _ => Nat.le_refl _
  | d+1, S => bestTo_len _ (fun i _ => lngD_len fl d _)
/-- the first one of the longest lists of elements of S in which what comes behind i is in fl at i -/
def lng (fl : List Int) (S : Nat) : List Int := lngD fl (S+1) S
theorem lng_len (fl : List Int) (S : Nat) : (lng fl S).length ≤ S + 1 := lngD_len fl _ _
/-- no element comes behind itself -/
structure Flw (fl : List Int) : Prop where
  len : fl.length ≤ 10
  ok : ∀ i, i < fl.length → 0 ≤ nth fl i ∧ nth fl i < 1024 ∧ (nth fl i).toNat.testBit i = false
theorem and_less {S x i : Nat} (hS : S.testBit i = true) (hx : x.testBit i = false) : S &&& x < S := by
  have h1 : S &&& x ≤ S := Nat.and_le_left
  rcases Nat.lt_or_eq_of_le h1 with h | h
  · exact h
  · have : (S &&& x).testBit i = true := by rw [h]; exact hS
    rw [Nat.testBit_and, hx] at this
    simp at this
theorem lngD_eq {fl : List Int} (hf : Flw fl) : ∀ (S d : Nat), S < d → lngD fl d S = lng fl S := by
  intro S
  induction S using Nat.strongRecOn with
  | _ S ih =>
    intro d hd
    obtain ⟨e, rfl⟩ : ∃ e, d = e + 1 := ⟨d - 1, by omega⟩
    show bestTo _ S fl.length = bestTo _ S fl.length
    refine bestTo_congr _ (fun i hi hb => ?_)
    have hl := and_less hb (hf.ok i hi).2.2
    rw [ih _ hl e (by omega), ih _ hl S hl]
theorem lng_eq {fl : List Int} (hf : Flw fl) (S : Nat) : lng fl S = bestTo (fun i => lng fl (S &&& (nth fl i).toNat)) S fl.length := by
  show bestTo _ S fl.length = _
  refine bestTo_congr _ (fun i hi hb => ?_)
  exact lngD_eq hf _ _ (and_less hb (hf.ok i hi).2.2)
def stepL (rest : Nat → List Int) (best : List Int) (x : Int) : List Int := if best.length ≤ (rest x.toNat).length then x :: rest x.toNat else best
theorem fold_best (rest : Nat → List Int) (S : Nat) : ∀ k, (elemsTo S k).foldl (stepL rest) [] = bestTo rest S k
  | 0 => rfl
  | k+1 => by
    have ih := fold_best rest S k
    simp only [elemsTo, bestTo]
    cases hb : S.testBit k
    · simpa using ih
    · rw [if_pos rfl, if_pos rfl, List.foldl_append, ih]
      rfl
theorem elems_lt {S n : Nat} (hS : S < 2 ^ n) (hn : n ≤ 10) : elems S = elemsTo S n := (elems_at (by rw [Nat.shiftRight_eq_div_pow]; exact Nat.div_eq_of_lt hS) hn).symm
theorem fold_take {f : List Int → Int → List Int} {es : List Int} {m : Nat} (h : m < es.length) : (es.take (m+1)).foldl f [] = f ((es.take m).foldl f []) (nth es m) := by
  rw [List.take_succ_eq_append_getElem h, List.foldl_append, nth_get _ _ h]; rfl
theorem and_i {a b : Int} (ha : 0 ≤ a) (ha1 : a < 9223372036854775808) (hb : 0 ≤ b) (hb1 : b < 9223372036854775808) : bits .and .i64 a b = ((a.toNat &&& b.toNat : Nat) : Int) := by
  obtain ⟨A, rfl⟩ := Int.eq_ofNat_of_zero_le ha
  obtain ⟨B, rfl⟩ := Int.eq_ofNat_of_zero_le hb
  exact and_nat A B (by omega) (by omega)

def elemB (i n : Int) : Bool := decide (0 ≤ i) && decide (i < n)
theorem elemB_iff {i n : Int} : elemB i n = true ↔ 0 ≤ i ∧ i < n := by simp [elemB]
theorem elemB_no {i n : Int} : elemB i n = false ↔ i < 0 ∨ n ≤ i := by
  rw [← Bool.not_eq_true, elemB_iff]; omega

def okE (n : Int) (xs : List Int) (i : Int) : Bool := relB n xs && elemB i n
def okB (n : Int) (xs : List Int) (i j : Int) : Bool := relB n xs && elemB i n && elemB j n
def betF (n : Int) (xs : List Int) (i j : Int) : Bool := okB n xs i j && hasB (nth xs i.toNat) j
theorem ret_bb {a b c d : Bool} (h : a = b) (h2 : c = d) : Ending.returned (.tuple #[.bool a, .bool c]) = .returned (.tuple #[.bool b, .bool d]) := by rw [h, h2]
theorem ret_ib {a b : Int} {c d : Bool} (h : a = b) (h2 : c = d) : Ending.returned (.tuple #[.int .i64 a, .bool c]) = .returned (.tuple #[.int .i64 b, .bool d]) := by rw [h, h2]

/-- how many lists of so many levels, each one of lv, have each of the m missing ones -/
def cE (lv : Nat) : Nat → Nat → Nat
  | 0, m => if 0 < m then 0 else 1
  | L+1, m => if L + 1 < m then 0 else if m = 0 then lv * cE lv L 0 else m * cE lv L (m - 1) + (lv - m) * cE lv L m
theorem cE_le {lv : Nat} (hl : lv ≤ 10) : ∀ {L m : Nat}, m ≤ lv → cE lv L m ≤ 10 ^ L
  | 0, m, _ => by simp only [cE]; split <;> simp
  | L+1, m, hm => by
    have hp : 10 ^ (L+1) = 10 * 10 ^ L := by rw [Nat.pow_succ]; omega
    simp only [cE]
    split
    · omega
    · split
      · have h1 := cE_le hl (L := L) (m := 0) (by omega)
        have := Nat.mul_le_mul hl h1
        omega
      · have h1 := cE_le hl (L := L) (m := m - 1) (by omega)
        have h2 := cE_le hl (L := L) (m := m) hm
        have h3 := Nat.mul_le_mul (Nat.le_refl m) h1
        have h4 := Nat.mul_le_mul (Nat.le_refl (lv - m)) h2
        have h5 : m * 10 ^ L + (lv - m) * 10 ^ L = lv * 10 ^ L := by rw [← Nat.add_mul]; congr 1; omega
        have h6 := Nat.mul_le_mul hl (Nat.le_refl (10 ^ L))
        omega
theorem ten_le {L : Nat} (h : L ≤ 10) : 10 ^ L ≤ 10000000000 := Nat.le_trans (Nat.pow_le_pow_right (by omega) h) (by decide)
theorem cE_small {lv L m : Nat} (hl : lv ≤ 10) (hL : L ≤ 10) (hm : m ≤ lv) : cE lv L m ≤ 10000000000 := Nat.le_trans (cE_le hl hm) (ten_le hL)
/-- the least number of levels that a list may have -/
def lsN (xs : List Int) : Nat → Nat
  | 0 => 0
  | k+1 => max (lsN xs k) ((nth xs k).toNat + 1)
theorem lsN_le {xs : List Int} {n : Nat} : ∀ {k : Nat}, (∀ j, j < k → 0 ≤ nth xs j ∧ nth xs j < (n : Int)) → lsN xs k ≤ n
  | 0, _ => by simp [lsN]
  | k+1, h => by
    have h1 := lsN_le (n := n) (k := k) (fun j hj => h j (by omega))
    have h2 := h k (by omega)
    simp only [lsN]
    omega
theorem used_ls (xs : List Int) : ∀ k, usedTo xs k < 2 ^ lsN xs k
  | 0 => by simp [usedTo, lsN]
  | k+1 => by
    have h1 := used_ls xs k
    simp only [usedTo, lsN]
    refine or_lt ?_ ?_
    · exact Nat.lt_of_lt_of_le h1 (Nat.pow_le_pow_right (by omega) (by omega))
    · exact two_lt (by omega)
/-- the sum over so many numbers of levels, from the least one on -/
def cntTo (u L least : Nat) : Nat → Nat
  | 0 => 0
  | k+1 => cntTo u L least k + cE (least + k) L (least + k - u)
theorem cntTo_le {u L least : Nat} (hL : L ≤ 10) : ∀ {k : Nat}, least + k ≤ 11 → cntTo u L least k ≤ k * 10000000000
  | 0, _ => by simp [cntTo]
  | k+1, h => by
    have h1 := cntTo_le (u := u) (least := least) hL (k := k) (by omega)
    have h2 := cE_small (lv := least + k) (L := L) (m := least + k - u) (by omega) hL (by omega)
    simp only [cntTo]
    omega
/-- how many levels of n elements begin with a list -/
def cntL (xs : List Int) (n : Nat) : Nat := cntTo (elems (usedTo xs xs.length)).length (n - xs.length) (lsN xs xs.length) (n + 1 - lsN xs xs.length)

/-- a row of a list of rows -/
def rowL (xss : List (List Int)) (k : Nat) : List Int := xss.getD k []
/-- how many numbers the first k rows have -/
def totS (xss : List (List Int)) : Nat → Nat
  | 0 => 0
  | k+1 => totS xss k + (rowL xss k).length
theorem totS_mono {xss : List (List Int)} {j : Nat} : ∀ {k : Nat}, j ≤ k → totS xss j ≤ totS xss k
  | 0, h => by obtain rfl : j = 0 := by omega
               exact Nat.le_refl _
  | k+1, h => by
    by_cases e : j = k + 1
    · rw [e]; exact Nat.le_refl _
    · have := totS_mono (xss := xss) (j := j) (k := k) (by omega)
      simp only [totS]; omega
theorem row_tot {xss : List (List Int)} {k n : Nat} (h : k < n) : (rowL xss k).length ≤ totS xss n := by
  have := totS_mono (xss := xss) (j := k + 1) (k := n) (by omega)
  simp only [totS] at this
  omega
/-- the slice of slices at an address reads as a list of rows -/
structure RdS (w : World) (a : Option Addr) (xss : List (List Int)) : Prop where
  len : xss.length ≤ 9223372036854775807
  row : ∀ k, k < xss.length → ∃ b off a' cap', a = some ⟨b, off, none⟩ ∧ b < w.heap.size ∧ w.cell? ⟨b, off + k, none⟩ = some (.slice a' (rowL xss k).length cap') ∧ Rd w a' (rowL xss k)
theorem RdS.below {w w' : World} {a : Option Addr} {xss : List (List Int)} (h : RdS w a xss) (hb : Below w.heap.size w w') : RdS w' a xss :=
  ⟨h.len, fun k hk => by
    obtain ⟨b, off, a', cap', e, hl, hc, hr⟩ := h.row k hk
    exact ⟨b, off, a', cap', e, Nat.lt_of_lt_of_le hl hb.size, (hb.cell (World.block_lt_of_cell? _ _ hc)).trans hc, hr.below hb⟩⟩
theorem ownsRow_bel {w w' : World} {B B' : Nat} {e : TypeId} {size : Nat} {v : Value} {n : Nat} {xs : List Value} (h : w.ownsRow B e size v n xs) (hb : Below B' w w') (hB : w.heap.size ≤ B') : w'.ownsRow B e size v n xs := by
  refine ⟨h.1, ?_⟩
  rcases h.2 with hn | ⟨g, cap, cur, e, hb', hg, rest⟩
  · exact .inl hn
  · refine .inr ⟨g, cap, cur, e, hb', ?_, rest⟩
    rw [hb.block g (by have := (Array.getElem?_eq_some_iff.1 hg).1; omega)]
    exact hg
def valAt (vl : List Value) (k : Nat) : Value := vl.getD k (.slice none 0 0)
/-- a slice of slices that owns its rows: the outer block is g -/
structure OwnS (w : World) (B g : Nat) (vl : List Value) (xss : List (List Int)) : Prop where
  lo : B ≤ g
  hi : g < w.heap.size
  max : xss.length ≤ 9223372036854775807
  cell : ∀ k, k < xss.length → w.cell? ⟨g, k, none⟩ = some (valAt vl k)
  row : ∀ k, k < xss.length → OwnI w (g + 1) (valAt vl k) (rowL xss k)
  apart : ∀ j k, j < k → k < xss.length → ∀ c d, (valAt vl j).ownBlock = some c → (valAt vl k).ownBlock = some d → c < d
theorem OwnS.rd {w : World} {B g : Nat} {vl : List Value} {xss : List (List Int)} (h : OwnS w B g vl xss) : RdS w (some ⟨g, 0, none⟩) xss :=
  ⟨h.max, fun k hk => by
    have h1 := h.row k hk
    have h2 := h.cell k hk
    obtain ⟨a', cap', e⟩ := h1.form
    rw [e] at h1 h2
    exact ⟨g, 0, a', cap', rfl, h.hi, by rw [Nat.zero_add]; exact h2, h1.rd⟩⟩
theorem OwnS.below {w w' : World} {B B' g : Nat} {vl : List Value} {xss : List (List Int)} (h : OwnS w B g vl xss) (hb : Below B' w w') (hB : w.heap.size ≤ B') : OwnS w' B g vl xss :=
  ⟨h.lo, Nat.lt_of_lt_of_le h.hi hb.size, h.max, fun k hk => (hb.cell (p := ⟨g, k, none⟩) (Nat.lt_of_lt_of_le h.hi hB)).trans (h.cell k hk), fun k hk => (h.row k hk).below hb hB, h.apart⟩
theorem OwnS.cut {w : World} {B g : Nat} {vl : List Value} {xss : List (List Int)} (h : OwnS w B g vl xss) {U : Nat} (hU : w.heap.size ≤ U) : B ≤ g ∧ ∀ k, k < xss.length → ∀ c, (valAt vl k).ownBlock = some c → g < c ∧ c < U :=
  ⟨h.lo, fun k hk c e => by have := (h.row k hk).lt c e; omega⟩
/-- only blocks of a stretch are written -/
structure TouchS (lo hi : Nat) (w w' : World) : Prop where
  os : w'.os = w.os
  tape : w'.tape = w.tape
  output : w'.output = w.output
  size : w.heap.size ≤ w'.heap.size
  block : ∀ k, k < w.heap.size → k < lo ∨ hi ≤ k → w'.heap[k]? = w.heap[k]?
theorem TouchS.refl (lo hi : Nat) (w : World) : TouchS lo hi w w := ⟨rfl, rfl, rfl, Nat.le_refl _, fun _ _ _ => rfl⟩
theorem TouchS.step {lo hi : Nat} {w w1 w2 : World} {r : Option Nat} (h : TouchS lo hi w w1) (hg : w1.grownBy w2 r) (hr : ∀ c, r = some c → lo ≤ c ∧ c < hi) : TouchS lo hi w w2 :=
  ⟨hg.os.trans h.os, hg.tape.trans h.tape, hg.output.trans h.output, Nat.le_trans h.size hg.size, fun k hk hn => (hg.block k (by have := h.size; omega) (fun e => by have := hr k e.symm; omega)).trans (h.block k hk hn)⟩
theorem TouchS.below {lo hi B : Nat} {w w' : World} (h : TouchS lo hi w w') (hB : B ≤ lo) (hs : B ≤ w.heap.size) : Below B w w' :=
  ⟨h.os, h.tape, h.output, h.size, fun k hk => h.block k (by omega) (by omega)⟩
theorem TouchS.other {lo hi : Nat} {w w' : World} (h : TouchS lo hi w w') (b : Nat) (hb : b < lo ∨ hi ≤ b) (hs : b < w.heap.size) : ∀ r, w'.heap[b]? = w.heap[b]? ∧ (r = some b → True) := fun _ => ⟨h.block b hs hb, fun _ => trivial⟩
theorem Box2.touch {lo hi : Nat} {w w' : World} {b : Nat} {u v : Value} (h : Box2 w b u v) (ht : TouchS lo hi w w') (hb : b < lo ∨ hi ≤ b) : Box2 w' b u v :=
  ⟨Nat.lt_of_lt_of_le h.1 ht.size, (World.cell?_of_block (w := w) (a := ⟨b, 0, none⟩) (ht.block b h.1 hb)).trans h.2.1, (World.cell?_of_block (w := w) (a := ⟨b, 1, none⟩) (ht.block b h.1 hb)).trans h.2.2⟩
theorem OwnI.touch {lo hi : Nat} {w w' : World} {B : Nat} {v : Value} {xs : List Int} (h : OwnI w B v xs) (ht : TouchS lo hi w w') (hb : ∀ c, v.ownBlock = some c → c < lo ∨ hi ≤ c) : OwnI w' B v xs := by
  refine ⟨h.1, ?_⟩
  rcases h.2 with hn | ⟨g, cap, cur, e, hb', hg, rest⟩
  · exact .inl hn
  · refine .inr ⟨g, cap, cur, e, hb', ?_, rest⟩
    rw [ht.block g (Array.getElem?_eq_some_iff.1 hg).1 (hb g (by rw [e]; rfl))]
    exact hg

theorem nth_snoc_lt {ys : List Int} {x : Int} {j : Nat} (h : j < ys.length) : nth (ys ++ [x]) j = nth ys j := by
  simp [nth, List.getD_eq_getElem?_getD, List.getElem?_append_left h]
theorem nth_snoc_at (ys : List Int) (x : Int) : nth (ys ++ [x]) ys.length = x := by
  simp [nth, List.getD_eq_getElem?_getD]
/-- the sum of the first k values -/
def sumTo (f : Nat → Nat) : Nat → Nat
  | 0 => 0
  | k+1 => sumTo f k + f k
theorem sumTo_congr {f g : Nat → Nat} : ∀ {k : Nat}, (∀ j, j < k → f j = g j) → sumTo f k = sumTo g k
  | 0, _ => rfl
  | k+1, h => by rw [sumTo, sumTo, sumTo_congr (fun j hj => h j (by omega)), h k (by omega)]
theorem sumTo_le {f : Nat → Nat} {c : Nat} : ∀ {k : Nat}, (∀ j, j < k → f j ≤ c) → sumTo f k ≤ k * c
  | 0, _ => by simp [sumTo]
  | k+1, h => by
    have h1 := sumTo_le (f := f) (c := c) (k := k) (fun j hj => h j (by omega))
    have h2 := h k (by omega)
    rw [sumTo, Nat.succ_mul]; omega
theorem sumTo_mono {f : Nat → Nat} {j : Nat} : ∀ {k : Nat}, j ≤ k → sumTo f j ≤ sumTo f k
  | 0, h => by obtain rfl : j = 0 := by omega
               exact Nat.le_refl _
  | k+1, h => by
    by_cases e : j = k + 1
    · rw [e]; exact Nat.le_refl _
    · have := sumTo_mono (f := f) (j := j) (k := k) (by omega)
      rw [sumTo]; omega
/-- the first k of so many lists of rows, one after the other -/
def catTo (f : Nat → List (List Int)) : Nat → List (List Int)
  | 0 => []
  | k+1 => catTo f k ++ f k
theorem catTo_len (f : Nat → List (List Int)) : ∀ k, (catTo f k).length = sumTo (fun x => (f x).length) k
  | 0 => rfl
  | k+1 => by rw [catTo, sumTo, List.length_append, catTo_len f k]
theorem mem_catTo {f : Nat → List (List Int)} {r : List Int} : ∀ {k : Nat}, r ∈ catTo f k → ∃ j, j < k ∧ r ∈ f j
  | 0, h => by simp [catTo] at h
  | k+1, h => by
    rcases List.mem_append.1 h with h | h
    · obtain ⟨j, h1, h2⟩ := mem_catTo h
      exact ⟨j, by omega, h2⟩
    · exact ⟨k, by omega, h⟩

theorem usedTo_snoc {ys : List Int} {x : Int} : ∀ {k : Nat}, k ≤ ys.length → usedTo (ys ++ [x]) k = usedTo ys k
  | 0, _ => rfl
  | k+1, h => by
    rw [usedTo, usedTo, usedTo_snoc (by omega), nth_snoc_lt (by omega)]
theorem lsN_snoc {ys : List Int} {x : Int} : ∀ {k : Nat}, k ≤ ys.length → lsN (ys ++ [x]) k = lsN ys k
  | 0, _ => rfl
  | k+1, h => by
    rw [lsN, lsN, lsN_snoc (by omega), nth_snoc_lt (by omega)]
/-- how many levels of n elements there are with these numbers used, so many elements to come, and so many levels at least -/
def cS (u L lst n : Nat) : Nat := cntTo (elemsTo u 6).length L lst (n + 1 - lst)
theorem cS_step : ∀ n : Fin 7, ∀ lst : Fin (n.val + 1), ∀ L : Fin n.val, ∀ u : Fin (2 ^ lst.val), sumTo (fun x => cS (u.val ||| 2 ^ x) L.val (max lst.val (x + 1)) n.val) n.val = cS u.val (L.val + 1) lst.val n.val := by decide +kernel
theorem cS_end : ∀ n : Fin 7, ∀ lst : Fin (n.val + 1), ∀ u : Fin (2 ^ lst.val), (u.val.testBit (lst.val - 1) = true ∨ lst.val = 0) → cS u.val 0 lst.val n.val = if downB u.val then 1 else 0 := by decide +kernel
theorem cntL_cS {xs : List Int} {n : Nat} (hn : n ≤ 6) (hv : ∀ j, j < xs.length → 0 ≤ nth xs j ∧ nth xs j < (n : Int)) : cntL xs n = cS (usedTo xs xs.length) (n - xs.length) (lsN xs xs.length) n := by
  have h1 := used_ls xs xs.length
  have h2 := lsN_le (n := n) (k := xs.length) hv
  have h3 : usedTo xs xs.length < 2 ^ 6 := Nat.lt_of_lt_of_le h1 (Nat.pow_le_pow_right (by omega) (by omega))
  rw [cntL, cS, elems_lt h3 (by omega)]
theorem cntL_sum {ys : List Int} {n : Nat} (hn : n ≤ 6) (hl : ys.length < n) (hv : ∀ j, j < ys.length → 0 ≤ nth ys j ∧ nth ys j < (n : Int)) :
    sumTo (fun x => cntL (ys ++ [(x : Int)]) n) n = cntL ys n := by
  have h1 := used_ls ys ys.length
  have h2 := lsN_le (n := n) (k := ys.length) hv
  have h := cS_step ⟨n, by omega⟩ ⟨lsN ys ys.length, by simp only; omega⟩ ⟨n - ys.length - 1, by simp only; omega⟩ ⟨usedTo ys ys.length, h1⟩
  simp only at h
  rw [cntL_cS hn hv, show n - ys.length = n - ys.length - 1 + 1 by omega, ← h]
  refine sumTo_congr fun x hx => ?_
  have hv' : ∀ j, j < (ys ++ [(x : Int)]).length → 0 ≤ nth (ys ++ [(x : Int)]) j ∧ nth (ys ++ [(x : Int)]) j < (n : Int) := by
    intro j hj
    by_cases e : j < ys.length
    · rw [nth_snoc_lt e]; exact hv j e
    · obtain rfl : j = ys.length := by simp at hj; omega
      rw [nth_snoc_at]; omega
  rw [cntL_cS hn hv', show (ys ++ [(x : Int)]).length = ys.length + 1 by simp, usedTo, lsN, usedTo_snoc (Nat.le_refl _), lsN_snoc (Nat.le_refl _), nth_snoc_at, Int.toNat_natCast, show n - (ys.length + 1) = n - ys.length - 1 by omega]
theorem ls_top {xs : List Int} : ∀ k, (usedTo xs k).testBit (lsN xs k - 1) = true ∨ lsN xs k = 0
  | 0 => .inr rfl
  | k+1 => by
    have ih := ls_top (xs := xs) k
    left
    rw [usedTo, lsN, Nat.testBit_or, testBit_two, Bool.or_eq_true, decide_eq_true_eq]
    rcases Nat.le_total (lsN xs k) ((nth xs k).toNat + 1) with h | h
    · right; omega
    · left
      rw [Nat.max_eq_left h]
      rcases ih with ih | ih
      · exact ih
      · omega
theorem cntL_end {xs : List Int} {n : Nat} (hn : n ≤ 6) (hl : xs.length = n) (hv : ∀ j, j < xs.length → 0 ≤ nth xs j ∧ nth xs j < (n : Int)) : cntL xs n = if lvB xs then 1 else 0 := by
  subst hl
  have h1 := used_ls xs xs.length
  have h2 := lsN_le (n := xs.length) (k := xs.length) hv
  have h := cS_end ⟨xs.length, by omega⟩ ⟨lsN xs xs.length, by simp only; omega⟩ ⟨usedTo xs xs.length, h1⟩ (ls_top _)
  simp only at h
  rw [cntL_cS hn hv, lv_full (by omega) (fun k hk => by have := hv k hk; omega), Nat.sub_self]
  exact h
/-- the levels of n elements that begin with a list, d elements to come -/
def waL (n : Nat) : Nat → List Int → List (List Int)
  | 0, xs => if lvB xs then [xs] else []
  | d+1, xs => catTo (fun x => waL n d (xs ++ [(x : Int)])) n
theorem vals_snoc {ys : List Int} {n x : Nat} (hv : ∀ j, j < ys.length → 0 ≤ nth ys j ∧ nth ys j < (n : Int)) (hx : x < n) : ∀ j, j < (ys ++ [(x : Int)]).length → 0 ≤ nth (ys ++ [(x : Int)]) j ∧ nth (ys ++ [(x : Int)]) j < (n : Int) := by
  intro j hj
  by_cases e : j < ys.length
  · rw [nth_snoc_lt e]; exact hv j e
  · obtain rfl : j = ys.length := by simp at hj; omega
    rw [nth_snoc_at]; omega
theorem waL_len {n : Nat} (hn : n ≤ 6) : ∀ (d : Nat) (ys : List Int), ys.length + d = n → (∀ j, j < ys.length → 0 ≤ nth ys j ∧ nth ys j < (n : Int)) → (waL n d ys).length = cntL ys n
  | 0, ys, hl, hv => by
    rw [cntL_end hn (by omega) hv, waL]
    split <;> rfl
  | d+1, ys, hl, hv => by
    rw [waL, catTo_len, ← cntL_sum hn (by omega) hv]
    exact sumTo_congr fun x hx => waL_len hn d _ (by simp; omega) (vals_snoc hv hx)
theorem waL_pre {n : Nat} : ∀ (d : Nat) (ys : List Int) {r : List Int}, r ∈ waL n d ys → r.take ys.length = ys
  | 0, ys, r, h => by
    rw [waL] at h
    split at h
    · simp at h; rw [h]; simp
    · simp at h
  | d+1, ys, r, h => by
    obtain ⟨x, _, h2⟩ := mem_catTo h
    have h3 := waL_pre d _ h2
    have h4 := congrArg (List.take ys.length) h3
    rw [List.take_take, show min ys.length (ys ++ [(x : Int)]).length = ys.length by simp, List.take_left] at h4
    exact h4
theorem cntL_le {xs : List Int} {n : Nat} (hn : n ≤ 6) (hv : ∀ j, j < xs.length → 0 ≤ nth xs j ∧ nth xs j < (n : Int)) : cntL xs n ≤ 70000000000 := by
  have h2 := lsN_le (n := n) (k := xs.length) hv
  have := cntTo_le (u := (elems (usedTo xs xs.length)).length) (L := n - xs.length) (least := lsN xs xs.length) (by omega) (k := n + 1 - lsN xs xs.length) (by omega)
  rw [cntL]
  omega
/-- how many levels come before these among those that share the first i numbers, and all that come before -/
def rkTo (xs : List Int) (i : Nat) : Nat := sumTo (fun j => sumTo (fun l => cntL (xs.take j ++ [(l : Int)]) xs.length) (nth xs j).toNat) i
def rkN (xs : List Int) : Nat := rkTo xs xs.length
theorem waL_at {xs : List Int} (h6 : xs.length ≤ 6) (hlv : lvB xs = true) : ∀ (d i : Nat), i + d = xs.length → ∃ p, p < (waL xs.length d (xs.take i)).length ∧ rowL (waL xs.length d (xs.take i)) p = xs ∧ (∀ j, j < p → rowL (waL xs.length d (xs.take i)) j ≠ xs) ∧ rkTo xs i + p = rkN xs
  | 0, i, h => by
    obtain rfl : i = xs.length := by omega
    refine ⟨0, ?_, ?_, fun j hj => by omega, rfl⟩
    · rw [List.take_length, waL, if_pos hlv]; simp
    · rw [List.take_length, waL, if_pos hlv]; rfl
  | d+1, i, h => by
    have hi : i < xs.length := by omega
    have ⟨z0, z1⟩ := lv_lt hlv hi
    obtain ⟨Z, hZ⟩ := Int.eq_ofNat_of_zero_le z0
    rw [hZ] at z1
    obtain ⟨p, hp, h1, h2, h3⟩ := waL_at h6 hlv d (i+1) (by omega)
    have ht : xs.take (i+1) = xs.take i ++ [(Z : Int)] := by
      rw [List.take_succ_eq_append_getElem hi]
      congr 2
      rw [← hZ, nth_get _ _ hi]
    have hvt : ∀ j, j < (xs.take i).length → 0 ≤ nth (xs.take i) j ∧ nth (xs.take i) j < ((xs.length : Nat) : Int) := by
      intro j hj
      rw [List.length_take] at hj
      have := lv_lt hlv (k := j) (by omega)
      have e : nth (xs.take i) j = nth xs j := by simp [nth, List.getD_eq_getElem?_getD, List.getElem?_take]; rw [if_pos (by omega)]
      rw [e]; exact this
    have hlt : (xs.take i).length = i := by rw [List.length_take]; omega
    have hcat : (catTo (fun x => waL xs.length d (xs.take i ++ [(x : Int)])) Z).length = sumTo (fun l => cntL (xs.take i ++ [(l : Int)]) xs.length) Z := by
      rw [catTo_len]
      exact sumTo_congr fun x hx => waL_len h6 d _ (by rw [List.length_append, hlt]; simp; omega) (vals_snoc hvt (by omega))
    have hsplit : ∀ k, Z < k → ∃ rest, catTo (fun x => waL xs.length d (xs.take i ++ [(x : Int)])) k = catTo (fun x => waL xs.length d (xs.take i ++ [(x : Int)])) Z ++ (waL xs.length d (xs.take (i+1)) ++ rest) := by
      intro k hk
      induction k with
      | zero => omega
      | succ k ih =>
        by_cases e : k = Z
        · subst e
          exact ⟨[], by rw [catTo, ht, List.append_nil]⟩
        · obtain ⟨rest, hr⟩ := ih (by omega)
          exact ⟨rest ++ waL xs.length d (xs.take i ++ [(k : Int)]), by rw [catTo, hr]; simp⟩
    obtain ⟨rest, hr⟩ := hsplit xs.length (by omega)
    have hwa : waL xs.length (d+1) (xs.take i) = catTo (fun x => waL xs.length d (xs.take i ++ [(x : Int)])) Z ++ (waL xs.length d (xs.take (i+1)) ++ rest) := by rw [waL, hr]
    have hC : ∀ j, j < (catTo (fun x => waL xs.length d (xs.take i ++ [(x : Int)])) Z).length → rowL (catTo (fun x => waL xs.length d (xs.take i ++ [(x : Int)])) Z ++ (waL xs.length d (xs.take (i+1)) ++ rest)) j ≠ xs := by
      intro j hj e
      have hm : xs ∈ catTo (fun x => waL xs.length d (xs.take i ++ [(x : Int)])) Z := by
        rw [rowL, List.getD_eq_getElem?_getD, List.getElem?_append_left hj, List.getElem?_eq_getElem hj] at e
        simp only [Option.getD_some] at e
        have hm' := List.getElem_mem hj
        rw [e] at hm'
        exact hm'
      obtain ⟨x, hx, hm2⟩ := mem_catTo hm
      have h4 := waL_pre d _ hm2
      rw [List.length_append, hlt, List.length_singleton, ht] at h4
      have h5 := List.append_cancel_left h4
      simp at h5
      omega
    generalize hCC : catTo (fun x => waL xs.length d (xs.take i ++ [(x : Int)])) Z = C at hwa hcat hC
    rw [hwa]
    refine ⟨C.length + p, ?_, ?_, ?_, ?_⟩
    · simp only [List.length_append]; omega
    · refine Eq.trans ?_ h1
      rw [rowL, rowL, List.getD_eq_getElem?_getD, List.getD_eq_getElem?_getD, List.getElem?_append_right (by omega), Nat.add_sub_cancel_left, List.getElem?_append_left hp]
    · intro j hj
      by_cases e : j < C.length
      · exact hC j e
      · have h6 := h2 (j - C.length) (by omega)
        rw [rowL, List.getD_eq_getElem?_getD] at h6 ⊢
        rw [List.getElem?_append_right (by omega), List.getElem?_append_left (by omega)]
        exact h6
    · rw [hcat]
      have h7 : rkTo xs (i+1) = rkTo xs i + sumTo (fun l => cntL (xs.take i ++ [(l : Int)]) xs.length) Z := by
        rw [rkTo, sumTo, ← rkTo, hZ]; rfl
      omega
def rkB (xs : List Int) : Bool := lvB xs && decide (xs.length ≤ 6)
def rkV (xs : List Int) : Int := if rkB xs then ((rkN xs : Nat) : Int) else 0

theorem waL_row {n : Nat} : ∀ (d : Nat) (ys : List Int) {r : List Int}, r ∈ waL n d ys → r.length = ys.length + d
  | 0, ys, r, h => by
    rw [waL] at h
    split at h
    · simp at h; rw [h]; simp
    · simp at h
  | d+1, ys, r, h => by
    obtain ⟨x, _, h2⟩ := mem_catTo h
    have := waL_row d _ h2
    rw [this]; simp; omega
theorem rowL_mem {xss : List (List Int)} {k : Nat} (h : k < xss.length) : rowL xss k ∈ xss := by
  rw [rowL, List.getD_eq_getElem?_getD, List.getElem?_eq_getElem h]
  exact List.getElem_mem h
theorem cat_at {f : Nat → List (List Int)} {j p : Nat} (hp : p < (f j).length) : ∀ {k : Nat}, j < k → rowL (catTo f k) ((catTo f j).length + p) = rowL (f j) p
  | 0, h => by omega
  | k+1, h => by
    by_cases e : j = k
    · subst e
      rw [catTo, rowL, rowL, List.getD_eq_getElem?_getD, List.getD_eq_getElem?_getD, List.getElem?_append_right (by omega), Nat.add_sub_cancel_left]
    · have ih := cat_at (f := f) hp (k := k) (by omega)
      have hl : (catTo f j).length + p < (catTo f k).length := by
        have h1 := sumTo_mono (f := fun x => (f x).length) (j := j + 1) (k := k) (by omega)
        rw [sumTo] at h1
        rw [catTo_len, catTo_len]; omega
      rw [← ih, catTo, rowL, rowL, List.getD_eq_getElem?_getD, List.getD_eq_getElem?_getD, List.getElem?_append_left hl]
/-- is there such a rank? -/
def lwB (n r : Int) : Bool := inB n 0 6 && inB r 0 ((((waL n.toNat n.toNat []).length : Nat) : Int) - 1)
def lwL (n r : Int) : List Int := if lwB n r then rowL (waL n.toNat n.toNat []) r.toNat else []
theorem lwL_len (n r : Int) : (lwL n r).length ≤ 1048576 := by
  unfold lwL
  split
  · rename_i h
    simp only [lwB, Bool.and_eq_true, inB_iff] at h
    have := waL_row _ _ (rowL_mem (xss := waL n.toNat n.toNat []) (k := r.toNat) (by omega))
    rw [this]; simp; omega
  · simp

/-- a list of rows that has been made: the outer row is at v, and each row is one of its own -/
structure RowsO (w : World) (B : Nat) (v : Value) (vl : List Value) (xss : List (List Int)) : Prop where
  own : w.ownsRow B 22 1 v xss.length vl
  row : ∀ k, k < xss.length → OwnI w B (valAt vl k) (rowL xss k)
  apart : ∀ k, k < xss.length → ∀ c, (valAt vl k).ownBlock = some c → v.ownBlock ≠ some c
theorem RowsO.vlen {w : World} {B : Nat} {v : Value} {vl : List Value} {xss : List (List Int)} (h : RowsO w B v vl xss) : vl.length = xss.length := by
  have := h.own.1
  omega
theorem RowsO.form {w : World} {B : Nat} {v : Value} {vl : List Value} {xss : List (List Int)} (h : RowsO w B v vl xss) : ∃ a cap, v = .slice a xss.length cap := by
  rcases h.own.2 with ⟨rfl, h0⟩ | ⟨g, cap, cur, rfl, _⟩
  · exact ⟨none, 0, by rw [h0]⟩
  · exact ⟨_, _, rfl⟩
theorem RowsO.below {w w' : World} {B B' : Nat} {v : Value} {vl : List Value} {xss : List (List Int)} (h : RowsO w B v vl xss) (hb : Below B' w w') (hB : w.heap.size ≤ B') : RowsO w' B v vl xss :=
  ⟨ownsRow_bel h.own hb hB, fun k hk => (h.row k hk).below hb hB, h.apart⟩
theorem RowsO.mono {w : World} {B B' : Nat} {v : Value} {vl : List Value} {xss : List (List Int)} (h : RowsO w B v vl xss) (hB : B' ≤ B) : RowsO w B' v vl xss := by
  refine ⟨⟨h.own.1, ?_⟩, fun k hk => (h.row k hk).mono hB, h.apart⟩
  rcases h.own.2 with hn | ⟨g, cap, cur, e, hb, rest⟩
  · exact .inl hn
  · exact .inr ⟨g, cap, cur, e, by omega, rest⟩
theorem RowsO.nil (w : World) (B : Nat) : RowsO w B (.slice none 0 0) [] [] :=
  ⟨World.ownsRow_nil _ _ _ _, fun k hk => by simp at hk, fun k hk => by simp at hk⟩
theorem RowsO.lt {w : World} {B : Nat} {v : Value} {vl : List Value} {xss : List (List Int)} (h : RowsO w B v vl xss) : ∀ b, v.ownBlock = some b → B ≤ b ∧ b < w.heap.size := World.ownsRow.lt h.own
theorem valAt_get {vl : List Value} {k : Nat} (h : k < vl.length) : vl[k]? = some (valAt vl k) := by
  rw [valAt, List.getD_eq_getElem?_getD, List.getElem?_eq_getElem h]; rfl
theorem RowsO.rd {w : World} {B n cap : Nat} {a : Option Addr} {vl : List Value} {xss : List (List Int)} (h : RowsO w B (.slice a n cap) vl xss) : RdS w a xss := by
  have hvl := h.vlen
  rcases h.own.2 with ⟨e, h0⟩ | ⟨g, cap', cur, e, hb, hg, hn, hm, hs, ht⟩
  · exact ⟨by omega, fun k hk => by omega⟩
  · simp only [Value.slice.injEq] at e
    obtain ⟨rfl, rfl, rfl⟩ := e
    refine ⟨by unfold maxLen at hm; omega, fun k hk => ?_⟩
    have h1 := World.ownsRow.cellAt h.own k (by omega)
    have h2 := h.row k hk
    obtain ⟨a', c', e'⟩ := h2.form
    rw [e'] at h2
    refine ⟨g, 0, a', c', rfl, (Array.getElem?_eq_some_iff.1 hg).1, ?_, h2.rd⟩
    rw [Nat.zero_add, h1, valAt_get (by omega), e']
/-- one list of rows after the other: only the outer row of the first one has been written -/
theorem RowsO.cat {w w' : World} {B C : Nat} {v v2 v' : Value} {vl vl2 : List Value} {xss yss : List (List Int)} (h : RowsO w B v vl xss) (h2 : RowsO w C v2 vl2 yss) (hBC : B ≤ C) (hvC : ∀ c, v.ownBlock = some c → c < C)
    (ho : w'.ownsRow B 22 1 v' (xss.length + yss.length) (vl ++ vl2)) (hg : w.grownBy w' v.ownBlock) (hv' : v'.ownBlock = v.ownBlock ∨ v'.ownBlock = some w.heap.size) : RowsO w' B v' (vl ++ vl2) (xss ++ yss) := by
  have hl := h.vlen
  have hl2 := h2.vlen
  have e1 : ∀ k, k < xss.length → valAt (vl ++ vl2) k = valAt vl k ∧ rowL (xss ++ yss) k = rowL xss k := by
    intro k hk
    exact ⟨by rw [valAt, valAt, List.getD_eq_getElem?_getD, List.getD_eq_getElem?_getD, List.getElem?_append_left (by omega)], by rw [rowL, rowL, List.getD_eq_getElem?_getD, List.getD_eq_getElem?_getD, List.getElem?_append_left (by omega)]⟩
  have e2 : ∀ k, xss.length ≤ k → valAt (vl ++ vl2) k = valAt vl2 (k - xss.length) ∧ rowL (xss ++ yss) k = rowL yss (k - xss.length) := by
    intro k hk
    exact ⟨by rw [valAt, valAt, List.getD_eq_getElem?_getD, List.getD_eq_getElem?_getD, List.getElem?_append_right (by omega), hl], by rw [rowL, rowL, List.getD_eq_getElem?_getD, List.getD_eq_getElem?_getD, List.getElem?_append_right (by omega)]⟩
  have hne : ∀ k, k < (xss ++ yss).length → OwnI w B (valAt (vl ++ vl2) k) (rowL (xss ++ yss) k) ∧ ∀ c, (valAt (vl ++ vl2) k).ownBlock = some c → v.ownBlock ≠ some c ∧ c < w.heap.size := by
    intro k hk
    rw [List.length_append] at hk
    by_cases e : k < xss.length
    · rw [(e1 k e).1, (e1 k e).2]
      exact ⟨h.row k e, fun c hc => ⟨h.apart k e c hc, ((h.row k e).lt c hc).2⟩⟩
    · rw [(e2 k (by omega)).1, (e2 k (by omega)).2]
      have h3 := h2.row (k - xss.length) (by omega)
      refine ⟨h3.mono hBC, fun c hc => ⟨fun hh => ?_, (h3.lt c hc).2⟩⟩
      have := hvC c hh
      have := (h3.lt c hc).1
      omega
  refine ⟨by rw [List.length_append]; exact ho, fun k hk => ?_, fun k hk c hc => ?_⟩
  · have ⟨h3, h4⟩ := hne k hk
    refine h3.kept hg ?_
    cases hc : (valAt (vl ++ vl2) k).ownBlock with
    | none => exact .inl rfl
    | some c => exact .inr (fun hh => (h4 c hc).1 hh.symm)
  · have ⟨_, h4⟩ := hne k hk
    have ⟨h5, h6⟩ := h4 c hc
    rcases hv' with hv' | hv'
    · rw [hv']; exact h5
    · rw [hv']; intro hh; simp only [Option.some.injEq] at hh; omega
theorem infoSlice : (Try.prog.info? 22).map (fun i => (i.zero, i.size, i.bytes)) = some (some (.slice none 0 0), 1, 24) := by kernel_rfl

theorem l1In_any (n lo hi : Int) (w : World) :
    Calls Try.prog 59 #[.int .i64 n, .int .i64 lo, .int .i64 hi] w fun e w' => e = .returned (.bool (inB n lo hi)) ∧ w = w' := by
  go_enter Try.func59, Try.ntmps59
  go_wp2
  all_goals (go_ret; exact ⟨ret_bool (by simp [inB]; try omega), rfl⟩)
theorem l1In_is {n lo hi : Int} {b : Bool} (h : inB n lo hi = b) (w : World) (m : Nat) :
    Calls Try.prog 59 #[.int .i64 n, .int .i64 lo, .int .i64 hi] (w.drewN m) fun e w' => e = .returned (.bool b) ∧ ∃ k, w' = w.drewN k :=
  Calls.quiet_of_same ((l1In_any n lo hi (w.drewN m)).mono (fun e w' hh => ⟨by rw [← h]; exact hh.1, hh.2.symm⟩))

theorem l1All_any (a : Option Addr) (xs : List Int) (cap : Nat) (lo hi : Int) (w : World) (hx : Rd w a xs) :
    Calls Try.prog 76 #[.slice a xs.length cap, .int .i64 lo, .int .i64 hi] w fun e w' => e = .returned (.bool (allB xs lo hi)) ∧ w = w' := by
  have hlen := hx.len
  go_enter Try.func76, Try.ntmps76
  go_wp2_with fail
  go_loop [11] (fun i => ∃ k : Nat, k ≤ xs.length ∧ i = .int .i64 k ∧ allB (xs.take k) lo hi = true) (fun i => xs.length - (intOf i).toNat)
  case atStart => exact ⟨0, Nat.zero_le _, rfl, rfl⟩
  case round =>
    obtain ⟨k, hk, rfl, hall⟩ := hrel
    by_cases hlt : k < xs.length
    · obtain ⟨b, off, rfl, hbl, hc⟩ := hx.cell k hlt
      cases hin : inB (nth xs k) lo hi
      · have hf := Lib.hid (allB_false hlt hin)
        go_wp2_with (go_at_call 59; refine (l1In_any _ _ _ _).mono ?_; rintro e w' ⟨rfl, rfl⟩)
        go_ret
        exact ⟨ret_bool hf.out.symm, rfl⟩
      · go_wp2_with (go_at_call 59; refine (l1In_any _ _ _ _).mono ?_; rintro e w' ⟨rfl, rfl⟩)
        go_round
        case rel => exact ⟨k + 1, by omega, by go_num, by rw [allB_take _ _ _ _ hlt, hall, hin]; rfl⟩
        case measure => simp [intOf]; omega
    · go_wp2_with fail
      go_ret
      exact ⟨ret_bool (by rw [← hall, List.take_of_length_le (by omega)]), rfl⟩
theorem l1All_is {a : Option Addr} {xs : List Int} {cap : Nat} {lo hi : Int} {b : Bool} {w : World} (hx : Rd w a xs) (h : allB xs lo hi = b) (m : Nat) :
    Calls Try.prog 76 #[.slice a xs.length cap, .int .i64 lo, .int .i64 hi] (w.drewN m) fun e w' => e = .returned (.bool b) ∧ ∃ k, w' = w.drewN k :=
  Calls.quiet_of_same ((l1All_any a xs cap lo hi (w.drewN m) (hx.below (Joins.below_draws _ _ _))).mono (fun e w' hh => ⟨by rw [← h]; exact hh.1, hh.2.symm⟩))

theorem weLevels_any (a : Option Addr) (xs : List Int) (cap : Nat) (w : World) (hx : Rd w a xs) :
    Calls Try.prog 52 #[.slice a xs.length cap] w fun e w' => e = .returned (.bool (lvB xs)) ∧ w = w' := by
  have hlen := hx.len
  by_cases hl : xs.length ≤ 10
  · go_enter Try.func52, Try.ntmps52
    go_wp2_with fail
    refine (l1All_any _ _ _ _ _ _ hx).mono ?_
    rintro e w' ⟨rfl, rfl⟩
    cases ha : allB xs 0 10
    · have HO : Hid (lvB xs = false) := by
        rw [Hid, ← Bool.not_eq_true]
        intro h
        rw [(lvB_iff.1 h).2.1] at ha
        cases ha
      clear ha
      go_wp2_with fail
      go_ret
      exact ⟨ret_bool HO.out.symm, rfl⟩
    · have HB := Lib.hid ha
      clear ha
      go_wp2_with fail
      go_loop [15] (fun i => ∃ k : Nat, k ≤ xs.length ∧ i = .int .i64 k ∧ ∀ j, j < k → lvOk xs j = true) (fun i => xs.length - (intOf i).toNat)
      case atStart => exact ⟨0, Nat.zero_le _, rfl, fun j hj => by omega⟩
      case round =>
        obtain ⟨k, hk, rfl, hall⟩ := hrel
        have HA := Lib.hid hall
        clear hall
        by_cases hlt : k < xs.length
        · have ⟨n0, n1⟩ := allB_nth HB.out hlt
          have hx2 := hx
          obtain ⟨b, off, rfl, hbl, hc⟩ := hx.cell k hlt
          by_cases hp : 0 < nth xs k
          · have HK : Hid (lvOk xs k = memB xs (nth xs k - 1)) := by
              have : decide (nth xs k ≤ 0) = false := by simp; omega
              simp [Hid, lvOk, this]
            go_wp2_with fail
            refine (l1Has_any _ _ _ _ _ hx2).mono ?_
            rintro e w' ⟨rfl, rfl⟩
            cases hm : memB xs (nth xs k - 1)
            · have HO : Hid (lvB xs = false) := by
                rw [Hid, ← Bool.not_eq_true]
                intro h
                have := (lvB_iff.1 h).2.2 k hlt
                rw [HK.out, hm] at this
                cases this
              clear hm
              go_wp2_with fail
              go_ret
              exact ⟨ret_bool HO.out.symm, rfl⟩
            · have HM : Hid (lvOk xs k = true) := by rw [Hid, HK.out]; exact hm
              clear hm
              go_wp2_with fail
              go_round
              case rel =>
                refine ⟨k + 1, by omega, by go_num, fun j hj => ?_⟩
                by_cases e : j = k
                · rw [e]; exact HM.out
                · exact HA.out j (by omega)
              case measure => simp [intOf]; omega
          · have HM : Hid (lvOk xs k = true) := by
              have : decide (nth xs k ≤ 0) = true := by simp; omega
              simp [Hid, lvOk, this]
            go_wp2_with fail
            go_round
            case rel =>
              refine ⟨k + 1, by omega, by go_num, fun j hj => ?_⟩
              by_cases e : j = k
              · rw [e]; exact HM.out
              · exact HA.out j (by omega)
            case measure => simp [intOf]; omega
        · obtain rfl : k = xs.length := by omega
          have HO : Hid (lvB xs = true) := lvB_iff.2 ⟨hl, HB.out, HA.out⟩
          go_wp2_with fail
          go_ret
          exact ⟨ret_bool HO.out.symm, rfl⟩
  · have HO : Hid (lvB xs = false) := by
      rw [Hid, ← Bool.not_eq_true]
      intro h
      exact hl (lvB_iff.1 h).1
    go_enter Try.func52, Try.ntmps52
    go_wp2_with fail
    go_ret
    exact ⟨ret_bool HO.out.symm, rfl⟩

theorem wpList_append_none {P : Program} {w : World} {ops : Array Oper} {rest : List Oper} {o : Oper} {a : Act} {Q : Exit → Act → World → Prop} (hgd : o.guard = none) (s x : Operand) (t : TypeId)
    (ho : o.op = .call { callee := .builtin .append, args := #[s, x], argTypes := #[t, t] })
    (base : Nat) (e : TypeId) (i : TypeInfo) (size : Nat) (ht : P.underlying t = some (.slice e)) (hi : P.info? e = some i)
    (v : Value) (n c : Nat) (xs : List Value) (hs : a.eval s = v) (hown : w.ownsRow base e size v n xs) (hx : a.eval x = .slice none 0 c)
    (h : wpList P ops Q rest (a.put o.dst v) w) : wpList P ops Q (o :: rest) a w := by
  refine wpList_plain hgd fun K hK => ?_
  have hrun : (Builtin.append_ #[t, t] o.type #[v, .slice none 0 c]).run P w = .ok v w := by
    rcases hown.2 with ⟨rfl, rfl⟩ | ⟨g, cap, cur, rfl, _, _, hnc, _⟩
    · simp [Builtin.append_, run_underlying ht, sizeOf, typeInfo, hi, Builtin.lenOf, Builtin.firstCells]
    · simp [Builtin.append_, run_underlying ht, sizeOf, typeInfo, hi, Builtin.lenOf, Builtin.firstCells, hnc, storeCells]
  unfold Oper.wp
  simp [execOp, ho, resolve, invoke, builtin, hs, hx, hrun, Result.andThen]
  exact hK _ _ h
theorem rd_news {w : World} {ad : Addr} {xs : List Int} (hx : Rd w (some ad) xs) : ∀ j u, (xs.map (Value.int .i64))[j]? = some u → w.cell? (ad.add j) = some u := by
  intro j u hj
  rw [List.getElem?_map, Option.map_eq_some_iff] at hj
  obtain ⟨x, hx1, rfl⟩ := hj
  obtain ⟨hlt, e⟩ := List.getElem?_eq_some_iff.1 hx1
  obtain ⟨b, off, e1, _, hc⟩ := hx.cell j hlt
  simp only [Option.some.injEq] at e1
  subst e1
  rw [Addr.add_lit, hc, nth_get xs j hlt, e]
theorem ints_one (xs : List Int) : ∀ u ∈ xs.map (Value.int .i64), u.oneCell' = true := by
  intro u hu
  obtain ⟨x, _, rfl⟩ := List.mem_map.1 hu
  rfl

theorem l1Own_any (a : Option Addr) (xs : List Int) (cap : Nat) (w : World) (hx : Rd w a xs) (hn : xs.length ≤ 1048576) :
    Calls Try.prog 85 #[.slice a xs.length cap] w fun e w' => ∃ a' cap', e = .returned (.slice a' xs.length cap') ∧ OwnI w' w.heap.size (.slice a' xs.length cap') xs ∧ Below w.heap.size w w' := by
  obtain ⟨i0, hi, hz0, hz1, hz2⟩ := info_parts infoInt
  have hown : (w.alloc (.cells #[] 3)).ownsRow w.heap.size 3 1 (.slice (some ⟨w.heap.size, 0, none⟩) 0 0) 0 [] := World.ownsRow_lit w #[] 0 (Nat.le_refl _) (by simp [maxLen]) (by simp)
  cases a with
  | none =>
    have h0 : xs = [] := by
      rcases xs with _ | ⟨x, t⟩
      · rfl
      · obtain ⟨b, off, e, _⟩ := hx.cell 0 (by simp)
        cases e
    subst h0
    go_enter Try.func85, Try.ntmps85
    go_wp2_with (at_builtin; refine wpList_append_none rfl _ _ 22 rfl w.heap.size 3 i0 1 Try.underlying22 hi _ 0 _ [] rfl hown rfl ?_)
    go_wp2_with fail
    go_ret
    exact ⟨_, _, rfl, hown, (by repeat (first | exact Below.refl _ _ | assumption | refine Below.alloc ?_ (by first | exact Nat.le_refl _ | (simp only [World.size_alloc, World.size_setCell, World.size_drew]; omega) | omega) _ | refine Below.setCell ?_ (by first | exact Nat.le_refl _ | (simp only [World.size_alloc, World.size_setCell, World.size_drew]; omega) | omega) _ | refine Below.drew ?_))⟩
  | some ad =>
    have hx1 := hx.alloc (.cells #[] 3)
    go_enter Try.func85, Try.ntmps85
    go_wp2_with (at_builtin; refine wpList_append_own _ rfl _ _ 22 rfl w.heap.size 3 i0 (.int .i64 0) 1 8 Try.underlying22 hi hz0 hz1 hz2 rfl (by decide) _ 0 [] rfl hown ad xs.length cap (xs.map (Value.int .i64)) rfl (by simp) ?c1 ?c2 ?c3 ?c4 ?c5 ?_)
    case c1 => exact rd_news hx1
    case c2 => exact ints_one xs
    case c3 => unfold maxLen; omega
    case c4 => omega
    case c5 => simp
    · intro v' w1 hown' hgrow _
      try simp only [Nat.zero_add, List.nil_append] at hown'
      have hb : Below w.heap.size w w1 := ((Below.refl _ _).alloc (Nat.le_refl _) _).grown hgrow (by simp) (fun b e => by simp [Value.ownBlock] at e; omega)
      obtain ⟨a', cap', rfl⟩ := OwnI.form (xs := xs) hown'
      have HO := Lib.hid hown'
      clear hown' hgrow hown
      go_wp2_with fail
      go_ret
      exact ⟨a', cap', rfl, HO.out, hb⟩

/-- the list of f 0, .., f (k - 1) -/
def fmap (f : Nat → Int) (k : Nat) : List Int := (List.range k).map f
theorem fmap_len (f : Nat → Int) (k : Nat) : (fmap f k).length = k := by simp [fmap]
theorem fmap_nth (f : Nat → Int) {k i : Nat} (h : i < k) : nth (fmap f k) i = f i := by simp [nth, fmap, h]
theorem fmap_succ (f : Nat → Int) (k : Nat) : fmap f (k+1) = fmap f k ++ [f k] := by simp [fmap, List.range_succ]
/-- one store more into a row that was made -/
theorem fill_step (f : Nat → Int) (m k : Nat) (h : k < m) :
    ((fmap f k ++ List.replicate (m - k) (0:Int)).map (Value.int .i64)).set k (.int .i64 (f k)) = (fmap f (k+1) ++ List.replicate (m - (k+1)) (0:Int)).map (Value.int .i64) := by
  apply List.ext_getElem?
  intro j
  rw [List.getElem?_set]
  by_cases hj : k = j
  · subst hj
    rw [if_pos rfl, if_pos (by simp [fmap_len]; omega), List.getElem?_map, List.getElem?_append_left (by rw [fmap_len]; omega)]
    simp [fmap]
  · simp only [hj, if_false, List.getElem?_map, List.getElem?_append, fmap_len, List.getElem?_replicate]
    by_cases h1 : j < k
    · have h2 : j < k + 1 := by omega
      simp [h1, h2, fmap]
    · have h2 : ¬ j < k + 1 := by omega
      have h3 : j - k < m - k ↔ j - (k+1) < m - (k+1) := by omega
      simp [h1, h2, h3]
theorem fill_end (f : Nat → Int) (m : Nat) : fmap f m ++ List.replicate (m - m) (0:Int) = fmap f m := by simp
/-- the row that a make of m integers has made -/
theorem made_ints {w1 : World} {B : Nat} {v : Value} {m : Nat} (f : Nat → Int) (h : w1.ownsRow B 3 1 v m (madeCells (Value.int .i64 0).cells (m * 1)).toList) :
    w1.ownsRow B 3 1 v m ((fmap f 0 ++ List.replicate (m - 0) (0:Int)).map (Value.int .i64)) := by
  simpa [Value.cells, toList_madeCells_one, fmap] using h

/-- a row of m integers of which the first k are filled, f 0 .. -/
def rowF (f : Nat → Int) (m k : Nat) : List Int := fmap f k ++ List.replicate (m - k) 0
theorem rowF_len (f : Nat → Int) {m k : Nat} (h : k ≤ m) : (rowF f m k).length = m := by simp [rowF, fmap_len]; omega
theorem rowF_set (f : Nat → Int) {m k : Nat} (h : k < m) : (rowF f m k).set k (f k) = rowF f m (k+1) := by
  apply List.ext_getElem?
  intro j
  rw [List.getElem?_set]
  by_cases hj : k = j
  · subst hj
    rw [if_pos rfl, if_pos (by rw [rowF_len f (by omega)]; exact h), rowF, List.getElem?_append_left (by rw [fmap_len]; omega)]
    simp [fmap]
  · simp only [hj, if_false, rowF, List.getElem?_append, fmap_len, List.getElem?_replicate]
    by_cases h1 : j < k
    · have h2 : j < k + 1 := by omega
      simp [h1, h2, fmap]
    · have h2 : ¬ j < k + 1 := by omega
      have h3 : j - k < m - k ↔ j - (k+1) < m - (k+1) := by omega
      simp [h1, h2, h3]
theorem rowF_zero (f : Nat → Int) {m k : Nat} (h : k < m) : (rowF f m k).set k 0 = rowF f m k := by
  apply List.ext_getElem?
  intro j
  rw [List.getElem?_set]
  by_cases hj : k = j
  · subst hj
    rw [if_pos rfl, if_pos (by rw [rowF_len f (by omega)]; exact h), rowF, List.getElem?_append_right (by rw [fmap_len]; omega)]
    rw [fmap_len, Nat.sub_self, List.getElem?_replicate, if_pos (by omega)]
  · simp [hj]
theorem rowF_end (f : Nat → Int) (m : Nat) : rowF f m m = fmap f m := by simp [rowF]
theorem made_row {w1 : World} {B : Nat} {v : Value} {m : Nat} (f : Nat → Int) (h : w1.ownsRow B 3 1 v m (madeCells (Value.int .i64 0).cells (m * 1)).toList) : OwnI w1 B v (rowF f m 0) := by
  unfold OwnI
  rw [rowF_len f (Nat.zero_le _)]
  simpa [Value.cells, toList_madeCells_one, fmap, rowF] using h

set_option maxRecDepth 100000 in
theorem weAll_any (n : Nat) (hn : n ≤ 6) : ∀ (d : Nat) (a : Option Addr) (ys : List Int) (cap : Nat) (w : World), ys.length + d = n → (∀ j, j < ys.length → 0 ≤ nth ys j ∧ nth ys j < (n : Int)) → Rd w a ys →
    Calls Try.prog 66 #[.slice a ys.length cap, .int .i64 (n : Int)] w fun e w' => ∃ a' cap' vl, e = .returned (.slice a' (waL n d ys).length cap') ∧ RowsO w' w.heap.size (.slice a' (waL n d ys).length cap') vl (waL n d ys) ∧ Below w.heap.size w w'
  | 0, a, ys, cap, w, hl, hv, hx => by
    have h0 : ((ys.length : Int) == (n : Int)) = true := by simp; omega
    have hl6 : ys.length ≤ 6 := by omega
    cases hlv : lvB ys
    · have HE : Hid (waL n 0 ys = []) := by simp [Hid, waL, hlv]
      have HL := Lib.hid hlv
      go_enter Try.func66, Try.ntmps66
      clear hl hlv
      go_wp2_with fail
      refine (weLevels_any _ _ _ _ hx).mono ?_
      rintro e w1 ⟨rfl, rfl⟩
      rw [HL.out]
      go_wp2_with fail
      go_ret
      exact ⟨none, 0, [], by rw [HE.out]; rfl, by rw [HE.out]; exact RowsO.nil _ _, Below.refl _ _⟩
    · have HE : Hid (waL n 0 ys = [ys]) := by simp [Hid, waL, hlv]
      have HL := Lib.hid hlv
      go_enter Try.func66, Try.ntmps66
      clear hl hlv
      go_wp2_with fail
      refine (weLevels_any _ _ _ _ hx).mono ?_
      rintro e w1 ⟨rfl, rfl⟩
      rw [HL.out]
      go_wp2_with fail
      refine (l1Own_any _ _ _ _ hx (by omega)).mono ?_
      rintro e w2 ⟨a2, c2, rfl, hown, hb2⟩
      go_wp2_with fail
      go_ret
      refine ⟨some ⟨w2.heap.size, 0, none⟩, 1, [.slice a2 ys.length c2], by rw [HE.out]; rfl, ?_, hb2.alloc hb2.size _⟩
      rw [HE.out]
      refine ⟨World.ownsRow_lit w2 #[.slice a2 ys.length c2] 1 hb2.size (by unfold maxLen; omega) rfl, fun k hk => ?_, fun k hk c hc => ?_⟩
      · obtain rfl : k = 0 := by simp at hk; omega
        exact hown.alloc _
      · obtain rfl : k = 0 := by simp at hk; omega
        have := (hown.lt c hc).2
        simp only [Value.ownBlock, ne_eq, Option.some.injEq]
        omega
  | d+1, a, ys, cap, w, hl, hv, hx => by
    obtain ⟨i0, hi, hz0, hz1, hz2⟩ := info_parts infoInt
    obtain ⟨j0, hj, hy0, hy1, hy2⟩ := info_parts infoSlice
    have h0 : ((ys.length : Int) == (n : Int)) = false := by simp; omega
    have hl6 : ys.length ≤ 6 := by omega
    have HIH : Hid (∀ (x : Nat) (a : Option Addr) (cap : Nat) (w : World), x < n → Rd w a (ys ++ [(x : Int)]) → Calls Try.prog 66 #[.slice a (ys.length + 1) cap, .int .i64 (n : Int)] w fun e w' => ∃ a' cap' vl, e = .returned (.slice a' (waL n d (ys ++ [(x : Int)])).length cap') ∧ RowsO w' w.heap.size (.slice a' (waL n d (ys ++ [(x : Int)])).length cap') vl (waL n d (ys ++ [(x : Int)])) ∧ Below w.heap.size w w') := by
      intro x a cap w hx hr
      have := weAll_any n hn d a (ys ++ [(x : Int)]) cap w (by simp; omega) (vals_snoc hv hx) hr
      rw [show (ys ++ [(x : Int)]).length = ys.length + 1 by simp] at this
      exact this
    have HE : Hid (waL n (d+1) ys = catTo (fun x => waL n d (ys ++ [(x : Int)])) n) := rfl
    have HR : Hid (∀ x, x < n → (waL n d (ys ++ [(x : Int)])).length ≤ 70000000000) := fun x hx => by
      rw [waL_len hn d _ (by simp; omega) (vals_snoc hv hx)]
      exact cntL_le hn (vals_snoc hv hx)
    have HC : Hid (∀ k, k ≤ n → (catTo (fun x => waL n d (ys ++ [(x : Int)])) k).length ≤ 420000000000) := fun k hk => by
      rw [catTo_len]
      have := sumTo_le (f := fun x => (waL n d (ys ++ [(x : Int)])).length) (k := k) (fun j hj => HR.out j (by omega))
      have := Nat.mul_le_mul (show k ≤ 6 by omega) (Nat.le_refl 70000000000)
      omega
    obtain ⟨F, hF⟩ : ∃ F, F = fun x : Nat => waL n d (ys ++ [(x : Int)]) := ⟨_, rfl⟩
    have HF : Hid (∀ x : Nat, waL n d (ys ++ [(x : Int)]) = F x) := fun x => by rw [hF]
    rw [← hF] at HE HC
    clear hF hl hv
    go_enter Try.func66, Try.ntmps66
    go_wp2_with fail
    go_loopw [5, 6] (fun v i wr => ∃ k : Nat, k ≤ n ∧ i = .int .i64 k ∧ (∃ vl, RowsO wr w.heap.size v vl (catTo F k)) ∧ Below w.heap.size w wr) (fun _ i _ => n - (intOf i).toNat)
    case atStart => exact ⟨0, Nat.zero_le _, rfl, ⟨[], RowsO.nil _ _⟩, Below.refl _ _⟩
    case round =>
      obtain ⟨k, hk, rfl, ⟨vl, hro⟩, hb⟩ := hrel
      obtain ⟨av, cv, rfl⟩ := hro.form
      have hbs := hb.size
      by_cases hlt : k < n
      · have k1 : (k : Int) < (n : Int) := by omega
        have hxr := hx.below hb
        have HRO := Lib.hid hro
        clear hro
        go_wp2_with fail
        refine (l1Own_any _ _ _ _ hxr (by omega)).mono ?_
        rintro e w2 ⟨a2, c2, rfl, hown2, hb2⟩
        have hbs2 := hb2.size
        go_wp2_with (at_builtin; refine wpList_append_own _ rfl _ _ 22 rfl wr.heap.size 3 i0 (.int .i64 0) 1 8 Try.underlying22 hi hz0 hz1 hz2 rfl (by decide) (.slice a2 ys.length c2) ys.length (ys.map (Value.int .i64)) rfl (hown2.alloc _) ⟨w2.heap.size, 0, none⟩ 1 1 [.int .i64 (k : Int)] rfl rfl (cell_one_new _ _ _) (by intro u hu; simp at hu; subst hu; rfl) (by unfold maxLen; omega) (by omega) (by simp; omega) ?_)
        intro v3 w3 hown3 hgrow _
        have hg2 := grown_alloc_set hgrow
        have hU := hown2.lt
        have b3 : Below wr.heap.size wr w3 := hb2.trans (below_of_grown hg2 (fun c e => (hU c e).1) hbs2)
        have o3 : OwnI w3 wr.heap.size v3 (ys ++ [(k : Int)]) := by
          unfold OwnI
          rw [List.length_append, List.map_append]
          exact hown3
        obtain ⟨a3, c3, rfl⟩ := o3.form
        rw [show (ys ++ [(k : Int)]).length = ys.length + 1 by simp] at o3 ⊢
        have hbs3 := b3.size
        clear hown3 hgrow hU hg2
        go_wp2_with fail
        refine (HIH.out k a3 c3 w3 hlt o3.rd).mono ?_
        rintro e w4 ⟨a4, c4, vl2, rfl, hr4, hb4⟩
        have b4 : Below wr.heap.size wr w4 := b3.trans (hb4.mono b3.size)
        have hbs4 := b4.size
        have hro4 := HRO.out.below b4 (Nat.le_refl _)
        have hlr := HR.out k hlt
        have hlc := HC.out k hk
        rw [HF.out k] at hr4 hlr ⊢
        have HN : Hid (catTo F (k+1) = catTo F k ++ F k) := rfl
        have hlt4 := HRO.out.lt
        have bw4 : Below w.heap.size w w4 := hb.trans (b4.mono hbs)
        clear o3 hbs2 hown2 hb2 hb4
        have hlen2 := hr4.vlen
        rcases hr4.own.2 with ⟨e, h00⟩ | ⟨g, cap', cur, e, hbg, hg, hnc, hcm, hcs, htk⟩
        · simp only [Value.slice.injEq] at e
          obtain ⟨rfl, e2, rfl⟩ := e
          have HN2 : Hid (catTo F (k+1) = catTo F k) := by rw [Hid, HN.out, List.eq_nil_of_length_eq_zero h00, List.append_nil]
          rw [h00]
          clear e2 h00
          go_wp2_with (at_builtin; refine wpList_append_none rfl _ _ 46 rfl w.heap.size 22 j0 1 Try.underlying46 hj _ _ _ _ rfl hro4.own rfl ?_)
          go_wp2_with fail
          go_roundw
          case rel => exact ⟨k + 1, by omega, by go_num, ⟨vl, by rw [HN2.out]; exact hro4⟩, bw4⟩
          case measure => simp [intOf]; omega
        · simp only [Value.slice.injEq] at e
          obtain ⟨rfl, _, rfl⟩ := e
          go_wp2_with (at_builtin; refine wpList_append_own_at _ rfl _ _ 46 rfl w.heap.size 22 j0 (.slice none 0 0) 1 24 Try.underlying46 hj hy0 hy1 hy2 rfl (by decide) (.slice av (catTo F k).length cv) (catTo F k).length vl rfl hro4.own ⟨g, 0, none⟩ (F k).length c4 vl2 rfl (by omega) ?c1 ?c2 (by unfold maxLen; omega) (by omega) (by omega) ?_)
          case c1 =>
            intro j u hj
            have hj2 := (List.getElem?_eq_some_iff.1 hj).1
            rw [Addr.add_lit, Nat.zero_add, World.ownsRow.cellAt hr4.own j (by omega)]
            exact hj
          case c2 =>
            intro u hu
            obtain ⟨j, hj2, e⟩ := List.mem_iff_getElem.1 hu
            obtain ⟨a6, c6, e6⟩ := (hr4.row j (by omega)).form
            have e7 := valAt_get hj2
            rw [List.getElem?_eq_getElem hj2, e, e6] at e7
            simp only [Option.some.injEq] at e7
            rw [e7]; rfl
          · intro v5 w5 hown5 hgrow _ hat
            have b5 := below_of_grown hgrow (fun c e => (hlt4 c e).1) (by omega : w.heap.size ≤ w4.heap.size)
            have o5 := hro4.cat hr4 (by omega) (fun c e => by have := (hlt4 c e).2; omega) hown5 hgrow hat
            clear hown5 hgrow hat
            go_wp2_with fail
            go_roundw
            case rel => exact ⟨k + 1, by omega, by go_num, ⟨vl ++ vl2, by rw [HN.out]; exact o5⟩, bw4.trans b5⟩
            case measure => simp [intOf]; omega
      · obtain rfl : k = n := by omega
        go_wp2_with fail
        go_ret
        exact ⟨av, cv, vl, by rw [HE.out]; rfl, by rw [HE.out]; exact hro, hb⟩

set_option maxRecDepth 100000 in
theorem sLwith_any (n r : Int) (w : World) (hn : -9223372036854775808 ≤ n ∧ n ≤ 9223372036854775807) (hr : -9223372036854775808 ≤ r ∧ r ≤ 9223372036854775807) :
    Calls Try.prog 44 #[.int .i64 n, .int .i64 r] w fun e w' => ∃ a' cap', e = .returned (.tuple #[.slice a' (lwL n r).length cap', .bool (lwB n r)]) ∧ OwnI w' w.heap.size (.slice a' (lwL n r).length cap') (lwL n r) ∧ Below w.heap.size w w' := by
  cases h : inB n 0 6
  · have HI := Lib.hid h
    have H2 : Hid (lwB n r = false) := by simp [Hid, lwB, h]
    have H1 : Hid (lwL n r = []) := by simp [Hid, lwL, H2.out]
    clear h
    go_enter Try.func44, Try.ntmps44
    go_wp2_with fail
    refine (l1In_any _ _ _ _).mono ?_
    rintro e w' ⟨rfl, rfl⟩
    rw [HI.out]
    go_wp2_with fail
    refine bodyPost_ret (v := .tuple #[.slice none 0 0, .bool false]) (by simp [results, Try.results44, go_sem]) rfl ?_
    exact ⟨none, 0, by rw [H1.out, H2.out]; rfl, by rw [H1.out]; exact OwnI.nil _ _, Below.refl _ _⟩
  · have HI := Lib.hid h
    have ⟨h0, h1⟩ := inB_iff.1 h
    obtain ⟨N, rfl⟩ := Int.eq_ofNat_of_zero_le h0
    have hN : N ≤ 6 := by omega
    have hcall := weAll_any N hN N none [] 0 w (by simp) (fun j hj => by simp at hj) ⟨by simp, fun k hk => by simp at hk⟩
    have HB : Hid (lwB (N : Int) r = inB r 0 ((((waL N N []).length : Nat) : Int) - 1)) := by simp [Hid, lwB, h]
    have HLL : Hid (lwB (N : Int) r = true → lwL (N : Int) r = rowL (waL N N []) r.toNat) := fun hh => by rw [lwL, if_pos hh]; rfl
    obtain ⟨R, hR⟩ : ∃ R, R = waL N N [] := ⟨_, rfl⟩
    rw [← hR] at hcall HB HLL
    have HCL := Lib.hid hcall
    clear hcall hR h h0 h1
    go_enter Try.func44, Try.ntmps44
    go_wp2_with fail
    refine (l1In_any _ _ _ _).mono ?_
    rintro e w' ⟨rfl, rfl⟩
    rw [HI.out]
    go_wp2_with fail
    refine HCL.out.mono ?_
    rintro e w2 ⟨a2, c2, vl, rfl, hro, hb2⟩
    have hlr := hro.rd.len
    go_wp2_with fail
    refine (l1In_any _ _ _ _).mono ?_
    rintro e w' ⟨rfl, rfl⟩
    cases h2 : inB r 0 (((R.length : Nat) : Int) - 1)
    · have H2 : Hid (lwB (N : Int) r = false) := by rw [Hid, HB.out, h2]
      have H1 : Hid (lwL (N : Int) r = []) := by simp [Hid, lwL, H2.out]
      clear h2
      go_wp2_with fail
      refine bodyPost_ret (v := .tuple #[.slice none 0 0, .bool false]) (by simp [results, Try.results44, go_sem]) rfl ?_
      exact ⟨none, 0, by rw [H1.out, H2.out]; rfl, by rw [H1.out]; exact OwnI.nil _ _, hb2⟩
    · have H2 : Hid (lwB (N : Int) r = true) := by rw [Hid, HB.out, h2]
      have ⟨r0, r1⟩ := inB_iff.1 h2
      obtain ⟨K, rfl⟩ := Int.eq_ofNat_of_zero_le r0
      have H1 : Hid (lwL (N : Int) (K : Int) = rowL R K) := HLL.out H2.out
      have hK : K < R.length := by omega
      clear h2 r0 r1
      have hown := hro.row K hK
      obtain ⟨g, off, a3, c3, rfl, hgl, hc, hr3⟩ := hro.rd.row K hK
      have hvl := hro.vlen
      have hat := valAt_get (vl := vl) (k := K) (by omega)
      have hval : valAt vl K = .slice a3 (rowL R K).length c3 := by
        rcases hro.own.2 with ⟨e, _⟩ | ⟨g', cap', cur, e, hbg, hg, hnc, hcm, hcs, htk⟩
        · cases e
        · simp only [Value.slice.injEq, Option.some.injEq, Addr.mk.injEq, and_true] at e
          obtain ⟨⟨rfl, rfl⟩, _, rfl⟩ := e
          have h3 := World.ownsRow.cellAt hro.own K (by omega)
          rw [Nat.zero_add] at hc
          rw [hc, hat] at h3
          simpa using h3.symm
      rw [hval] at hown
      clear hro hval hat hvl
      go_wp2_with fail
      refine bodyPost_ret (v := .tuple #[.slice a3 (rowL R K).length c3, .bool true]) (by simp [results, Try.results44, go_sem]) rfl ?_
      exact ⟨a3, c3, by rw [H1.out, H2.out], by rw [H1.out]; exact hown, hb2⟩

def oc1 (s : Int) : Int := IntKind.u64.wrap (bits .and .u64 (s / 2) 6148914691236517205 + bits .and .u64 s 6148914691236517205)
def oc2 (s : Int) : Int := IntKind.u64.wrap (bits .and .u64 (oc1 s / 4) 3689348814741910323 + bits .and .u64 (oc1 s) 3689348814741910323)
def oc3 (s : Int) : Int := bits .and .u64 (IntKind.u64.wrap (oc2 s / 16 + oc2 s)) 1085102592571150095
def oc4 (s : Int) : Int := IntKind.u64.wrap (oc3 s + oc3 s / 256)
def oc5 (s : Int) : Int := IntKind.u64.wrap (oc4 s + oc4 s / 65536)
def oc6 (s : Int) : Int := IntKind.u64.wrap (oc5 s + oc5 s / 4294967296)
theorem oc_all : ∀ s : Fin 1024, bits .and .i64 (IntKind.i64.wrap (oc6 (s.val : Int))) 127 = ((elems s.val).length : Int) := by decide +kernel
theorem oc_eq {s : Nat} (h : s < 1024) : bits .and .i64 (wrap64 (oc6 (s : Int))) 127 = ((elems s).length : Int) := by
  rw [← IntWalk.i64_left]
  exact oc_all ⟨s, h⟩
theorem ones64_any (s : Nat) (w : World) (h1 : s < 1024) :
    Calls Try.prog 87 #[.int .u64 (s : Int)] w fun e w' => e = .returned (.int .i64 ((elems s).length : Int)) ∧ w = w' := by
  go_enter Try.func87, Try.ntmps87
  go_wp2_with fail
  go_ret
  refine ⟨?_, rfl⟩
  rw [← oc_eq h1]
  rfl
theorem ones_any (s : Nat) (w : World) (h1 : s < 1024) :
    Calls Try.prog 78 #[.int .u64 (s : Int)] w fun e w' => e = .returned (.int .i64 ((elems s).length : Int)) ∧ w = w' := by
  go_enter Try.func78, Try.ntmps78
  go_wp2_with fail
  refine (ones64_any s _ h1).mono ?_
  rintro e w' ⟨rfl, rfl⟩
  go_wp2_with fail
  go_ret
  exact ⟨rfl, rfl⟩
theorem countElements_any (s : Nat) (w : World) (h1 : s < 1024) :
    Calls Try.prog 54 #[.int .i64 (s : Int)] w fun e w' => e = .returned (.int .i64 ((elems s).length : Int)) ∧ w = w' := by
  have s1 : (s : Int) < 1024 := by omega
  go_enter Try.func54, Try.ntmps54
  go_wp2_with fail
  refine (ones_any s _ h1).mono ?_
  rintro e w' ⟨rfl, rfl⟩
  go_wp2_with fail
  go_ret
  exact ⟨rfl, rfl⟩

theorem fullSet_any (n : Int) (w : World) (h0 : 0 ≤ n) (h1 : n ≤ 10) :
    Calls Try.prog 53 #[.int .i64 n] w fun e w' => e = .returned (.int .i64 (2 ^ n.toNat - 1)) ∧ w = w' := by
  have hf := Lib.hid (full_eq h0 h1)
  go_enter Try.func53, Try.ntmps53
  go_wp2
  go_ret
  exact ⟨ret_int hf.out, rfl⟩

set_option maxRecDepth 100000 in
theorem iAreLevels_any (a : Option Addr) (xs : List Int) (cap : Nat) (w : World) (hx : Rd w a xs) :
    Calls Try.prog 26 #[.slice a xs.length cap] w fun e w' => e = .returned (.bool (lvB xs)) ∧ w = w' := by
  have hlen := hx.len
  by_cases hl : xs.length ≤ 10
  · go_enter Try.func26, Try.ntmps26
    go_wp2_with fail
    go_loop [3, 11] (fun s i => ∃ k : Nat, k ≤ xs.length ∧ i = .int .i64 k ∧ s = .int .i64 ((usedTo xs k : Nat) : Int) ∧ usedTo xs k < 1024 ∧ (∀ j, j < k → 0 ≤ nth xs j ∧ nth xs j < (xs.length : Int))) (fun _ i => xs.length - (intOf i).toNat)
    case atStart => exact ⟨0, Nat.zero_le _, rfl, rfl, by simp [usedTo], fun j hj => by omega⟩
    case round =>
      obtain ⟨k, hk, rfl, rfl, hu, hall⟩ := hrel
      have HA := Lib.hid hall
      clear hall
      obtain ⟨S, hS⟩ : ∃ S, S = usedTo xs k := ⟨_, rfl⟩
      rw [← hS] at hu ⊢
      have HS := Lib.hid hS
      clear hS
      by_cases hlt : k < xs.length
      · obtain ⟨b, off, rfl, hbl, hc⟩ := hx.cell k hlt
        by_cases h1 : nth xs k < 0
        · have HO : Hid (lvB xs = false) := by
            rw [Hid, ← Bool.not_eq_true]
            intro h
            have := lv_lt h hlt
            omega
          go_wp2_with fail
          go_ret
          exact ⟨ret_bool HO.out.symm, rfl⟩
        · by_cases h2 : (xs.length : Int) ≤ nth xs k
          · have HO : Hid (lvB xs = false) := by
              rw [Hid, ← Bool.not_eq_true]
              intro h
              have := lv_lt h hlt
              omega
            go_wp2_with fail
            go_ret
            exact ⟨ret_bool HO.out.symm, rfl⟩
          · obtain ⟨L, hL⟩ := Int.eq_ofNat_of_zero_le (by omega : 0 ≤ nth xs k)
            rw [hL] at hc h1 h2
            have HL := Lib.hid hL
            have hor := or_bit (b := S) (k := L) (by omega) (by omega)
            have HO := Lib.hid hor
            have hlt2 : S ||| 2 ^ L < 1024 := or_lt (n := 10) (by omega) (two_lt (by omega))
            have HN : Hid (usedTo xs (k+1) = S ||| 2 ^ L) := by rw [Hid, usedTo, ← HS.out, hL]; rfl
            clear hL hor
            go_wp2_with fail
            go_round
            case rel =>
              refine ⟨k + 1, by omega, by go_num, by rw [HO.out, HN.out], by rw [HN.out]; exact hlt2, fun j hj => ?_⟩
              by_cases e : j = k
              · rw [e, HL.out]; omega
              · exact HA.out j (by omega)
            case measure => simp [intOf]; omega
      · obtain rfl : k = xs.length := by omega
        have HF : Hid (lvB xs = fullB S) := by rw [Hid, lv_full hl HA.out, ← HS.out, full_down hu]
        have hel := elems_len S
        go_wp2_with fail
        refine (countElements_any S _ hu).mono ?_
        rintro e w' ⟨rfl, rfl⟩
        go_wp2_with fail
        refine (fullSet_any _ _ (by omega) (by omega)).mono ?_
        rintro e w' ⟨rfl, rfl⟩
        go_wp2_with fail
        go_ret
        exact ⟨ret_bool HF.out.symm, rfl⟩
  · have HO : Hid (lvB xs = false) := by
      rw [Hid, ← Bool.not_eq_true]
      intro h
      exact hl (lvB_iff.1 h).1
    go_enter Try.func26, Try.ntmps26
    go_wp2_with fail
    go_ret
    exact ⟨ret_bool HO.out.symm, rfl⟩

set_option maxRecDepth 100000 in
theorem iEnd_any : ∀ (L lv m : Nat) (w : World), L ≤ 10 → lv ≤ 10 → m ≤ lv →
    Calls Try.prog 83 #[.int .i64 (L : Int), .int .i64 (lv : Int), .int .i64 (m : Int)] w fun e w' => e = .returned (.int .i64 ((cE lv L m : Nat) : Int)) ∧ w = w'
  | 0, lv, m, w, hL, hv, hm => by
    by_cases h0 : 0 < m
    · have HE : Hid (cE lv 0 m = 0) := by simp [Hid, cE, h0]
      go_enter Try.func83, Try.ntmps83
      go_wp2_with fail
      go_ret
      exact ⟨ret_int (by rw [HE.out]; rfl), rfl⟩
    · obtain rfl : m = 0 := by omega
      have HE : Hid (cE lv 0 0 = 1) := by simp [Hid, cE]
      go_enter Try.func83, Try.ntmps83
      go_wp2_with fail
      go_ret
      exact ⟨ret_int (by rw [HE.out]; rfl), rfl⟩
  | L+1, lv, m, w, hL, hv, hm => by
    have HIH : Hid (∀ (l q : Int) (w : World), l = (L : Int) → 0 ≤ q → q ≤ (lv : Int) → Calls Try.prog 83 #[.int .i64 l, .int .i64 (lv : Int), .int .i64 q] w fun e w' => e = .returned (.int .i64 ((cE lv L q.toNat : Nat) : Int)) ∧ w = w') := by
      intro l q w h1 h2 h3
      subst h1
      obtain ⟨Q, rfl⟩ := Int.eq_ofNat_of_zero_le h2
      exact iEnd_any L lv Q w (by omega) hv (by omega)
    have hz : (((L + 1 : Nat) : Int) == 0) = false := by simp; omega
    by_cases h1 : L + 1 < m
    · have HE : Hid (cE lv (L+1) m = 0) := by simp [Hid, cE, h1]
      go_enter Try.func83, Try.ntmps83
      go_wp2_with fail
      go_ret
      exact ⟨ret_int (by rw [HE.out]; rfl), rfl⟩
    · by_cases h2 : m = 0
      · subst h2
        have HE : Hid (cE lv (L+1) 0 = lv * cE lv L 0) := by simp [Hid, cE]
        have hs := cE_small (lv := lv) (L := L) (m := 0) hv (by omega) (by omega)
        have HB : Hid (cE lv (L+1) 0 ≤ 10000000000) := cE_small (lv := lv) (L := L + 1) (m := 0) hv hL (by omega)
        go_enter Try.func83, Try.ntmps83
        go_wp2_with fail
        refine (HIH.out _ _ _ (by omega) (by omega) (by omega)).mono ?_
        rintro e w' ⟨rfl, rfl⟩
        go_wp2_with fail
        go_ret
        refine ⟨ret_int ?_, rfl⟩
        have h3 := HB.out
        have h4 := HE.out
        rw [h4] at h3 ⊢
        rw [← Int.natCast_mul]
        generalize lv * cE lv L 0 = P at h3 ⊢
        exact IntWalk.wrap64_in _ ⟨by omega, by omega⟩
      · have HE : Hid (cE lv (L+1) m = m * cE lv L (m - 1) + (lv - m) * cE lv L m) := by simp [Hid, cE, h1, h2]
        have hs1 := cE_small (lv := lv) (L := L) (m := m - 1) hv (by omega) (by omega)
        have hs2 := cE_small (lv := lv) (L := L) (m := m) hv (by omega) hm
        have HB : Hid (cE lv (L+1) m ≤ 10000000000) := cE_small (lv := lv) (L := L + 1) (m := m) hv hL hm
        have hz2 : ((m : Int) == 0) = false := by simp; omega
        go_enter Try.func83, Try.ntmps83
        go_wp2_with fail
        refine (HIH.out _ _ _ (by omega) (by omega) (by omega)).mono ?_
        rintro e w' ⟨rfl, rfl⟩
        go_wp2_with fail
        refine (HIH.out _ _ _ (by omega) (by omega) (by omega)).mono ?_
        rintro e w' ⟨rfl, rfl⟩
        go_wp2_with fail
        go_ret
        refine ⟨ret_int ?_, rfl⟩
        have h3 := HB.out
        have h4 := HE.out
        rw [h4] at h3 ⊢
        have e2 : ((lv : Int) - (m : Int)) * ((cE lv L m : Nat) : Int) = (((lv - m) * cE lv L m : Nat) : Int) := by
          rw [Int.natCast_mul, show ((lv : Int) - (m : Int)) = ((lv - m : Nat) : Int) by omega]
        rw [e2, ← Int.natCast_mul]
        generalize m * cE lv L (m - 1) = P1 at h3 ⊢
        generalize (lv - m) * cE lv L m = P2 at h3 ⊢
        rw [IntWalk.wrap64_in (P1 : Int) ⟨by omega, by omega⟩, IntWalk.wrap64_in (P2 : Int) ⟨by omega, by omega⟩, IntWalk.wrap64_in _ ⟨by omega, by omega⟩]
        omega
theorem iEnd_int (L lv m : Nat) (l v q : Int) (w : World) (hl : l = (L : Int)) (hv : v = (lv : Int)) (hq : q = (m : Int)) (h1 : L ≤ 10) (h2 : lv ≤ 10) (h3 : m ≤ lv) :
    Calls Try.prog 83 #[.int .i64 l, .int .i64 v, .int .i64 q] w fun e w' => e = .returned (.int .i64 ((cE lv L m : Nat) : Int)) ∧ w = w' := by
  subst hl hv hq
  exact iEnd_any L lv m w h1 h2 h3

set_option maxRecDepth 100000 in
theorem iCnt_any (a : Option Addr) (xs : List Int) (cap n : Nat) (w : World) (hx : Rd w a xs) (hl : xs.length ≤ n) (hn : n ≤ 10) (hv : ∀ j, j < xs.length → 0 ≤ nth xs j ∧ nth xs j < (n : Int)) :
    Calls Try.prog 61 #[.slice a xs.length cap, .int .i64 (n : Int)] w fun e w' => e = .returned (.int .i64 ((cntL xs n : Nat) : Int)) ∧ w = w' := by
  have hlen := hx.len
  have HV := Lib.hid hv
  have hu0 : ∀ k, k ≤ xs.length → usedTo xs k < 1024 := usedTo_lt (fun j hj => by have := hv j hj; omega)
  have HU := Lib.hid hu0
  have HLE : Hid (∀ k, k ≤ xs.length → lsN xs k ≤ n) := fun k hk => lsN_le (fun j hj => hv j (by omega))
  clear hv hu0
  go_enter Try.func61, Try.ntmps61
  go_wp2_with fail
  go_loop [5, 6, 13] (fun s t i => ∃ k : Nat, k ≤ xs.length ∧ i = .int .i64 k ∧ s = .int .i64 ((usedTo xs k : Nat) : Int) ∧ t = .int .i64 ((lsN xs k : Nat) : Int)) (fun _ _ i => xs.length - (intOf i).toNat)
  case atStart => exact ⟨0, Nat.zero_le _, rfl, rfl, rfl⟩
  case round =>
    obtain ⟨k, hk, rfl, rfl, rfl⟩ := hrel
    have hu := HU.out k hk
    have hls := HLE.out k hk
    obtain ⟨S, hS⟩ : ∃ S, S = usedTo xs k := ⟨_, rfl⟩
    obtain ⟨T, hT⟩ : ∃ T, T = lsN xs k := ⟨_, rfl⟩
    rw [← hS] at hu ⊢
    rw [← hT] at hls ⊢
    have HS := Lib.hid hS
    have HT := Lib.hid hT
    clear hS hT
    by_cases hlt : k < xs.length
    · obtain ⟨b, off, rfl, hbl, hc⟩ := hx.cell k hlt
      have ⟨v0, v1⟩ := HV.out k hlt
      obtain ⟨V, hV⟩ := Int.eq_ofNat_of_zero_le v0
      rw [hV] at hc v1
      have HN1 : Hid (usedTo xs (k+1) = S ||| 2 ^ V) := by rw [Hid, usedTo, ← HS.out, hV]; rfl
      have HN2 : Hid (lsN xs (k+1) = max T (V + 1)) := by rw [Hid, lsN, ← HT.out, hV]; rfl
      have hor := or_bit (b := S) (k := V) (by omega) (by omega)
      have HO := Lib.hid hor
      clear hor hV v0
      go_wp2_with fail
      go_round
      case rel => exact ⟨k + 1, by omega, by go_num, by rw [HO.out, HN1.out], val_int (by rw [HN2.out]; split <;> omega)⟩
      case measure => simp [intOf]; omega
    · obtain rfl : k = xs.length := by omega
      have hel : (elems S).length ≤ T := by
        have h1 := used_ls xs xs.length
        rw [← HS.out, ← HT.out] at h1
        by_cases h10 : T ≤ 10
        · rw [elems_lt h1 h10]; exact elemsTo_len _ _
        · have := elems_len S; omega
      have HC : Hid (cntL xs n = cntTo (elems S).length (n - xs.length) T (n + 1 - T)) := by rw [Hid, cntL, ← HS.out, ← HT.out]
      obtain ⟨u, hu1⟩ : ∃ u, u = (elems S).length := ⟨_, rfl⟩
      rw [← hu1] at hel HC
      have HU1 := Lib.hid hu1
      clear hu1
      go_wp2_with fail
      go_loop [9, 10] (fun s i => ∃ k : Nat, T + k ≤ n + 1 ∧ i = .int .i64 ((T + k : Nat) : Int) ∧ s = .int .i64 ((cntTo u (n - xs.length) T k : Nat) : Int)) (fun _ i => n + 1 - (intOf i).toNat)
      case atStart => exact ⟨0, by omega, rfl, rfl⟩
      case round =>
        obtain ⟨k, hk2, rfl, rfl⟩ := hrel
        have hcl := cntTo_le (u := u) (L := n - xs.length) (least := T) (by omega) (k := k) (by omega)
        by_cases hlt2 : T + k ≤ n
        · have hcs := cE_small (lv := T + k) (L := n - xs.length) (m := T + k - u) (by omega) (by omega) (by omega)
          have HN : Hid (cntTo u (n - xs.length) T (k+1) = cntTo u (n - xs.length) T k + cE (T + k) (n - xs.length) (T + k - u)) := rfl
          go_wp2_with fail
          refine (countElements_any S _ hu).mono ?_
          rintro e w' ⟨rfl, rfl⟩
          rw [← HU1.out]
          go_wp2_with fail
          refine (iEnd_int (n - xs.length) (T + k) (T + k - u) _ _ _ _ (by omega) (by omega) (by omega) (by omega) (by omega) (by omega)).mono ?_
          rintro e w' ⟨rfl, rfl⟩
          go_wp2_with fail
          go_round
          case rel => exact ⟨k + 1, by omega, by go_num, val_int (by rw [HN.out]; omega)⟩
          case measure => simp [intOf]; omega
        · obtain rfl : k = n + 1 - T := by omega
          go_wp2_with fail
          go_ret
          exact ⟨ret_int (by rw [HC.out]), rfl⟩

theorem OwnI.capLe {w : World} {B n cap : Nat} {a : Option Addr} {xs : List Int} (h : OwnI w B (.slice a n cap) xs) : n ≤ cap := by
  rcases h.2 with ⟨e, _⟩ | ⟨g, cap', cur, e, _, _, hc, _⟩
  · simp only [Value.slice.injEq] at e
    omega
  · simp only [Value.slice.injEq] at e
    omega
theorem Rd.take {w : World} {a : Option Addr} {xs : List Int} (h : Rd w a xs) (k : Nat) : Rd w a (xs.take k) :=
  ⟨Nat.le_trans (by rw [List.length_take]; exact Nat.min_le_right _ _) h.len, fun j hj => by
    have hj' : j < xs.length ∧ j < k := by rw [List.length_take] at hj; omega
    obtain ⟨b, off, e, hl, hc⟩ := h.cell j hj'.1
    refine ⟨b, off, e, hl, hc.trans ?_⟩
    simp [nth, List.getD_eq_getElem?_getD, List.getElem?_take, hj'.2]⟩

theorem OwnI.init {w : World} {B g n cap : Nat} {xs : List Int} {x : Int} (h : OwnI w B (.slice (some ⟨g, 0, none⟩) n cap) (xs ++ [x])) : OwnI w B (.slice (some ⟨g, 0, none⟩) xs.length cap) xs := by
  rcases h.2 with ⟨e, _⟩ | ⟨g', cap', cur, e, hb, hg, hn, hm, hs, ht⟩
  · cases e
  · simp only [Value.slice.injEq, Option.some.injEq, Addr.mk.injEq, and_true] at e
    obtain ⟨rfl, _, rfl⟩ := e
    rw [List.length_append, List.length_singleton] at hn ht
    refine ⟨by simp, .inr ⟨_, _, cur, rfl, hb, hg, by omega, hm, hs, ?_⟩⟩
    have h1 := congrArg (List.take xs.length) ht
    rw [List.take_take, show min xs.length ((xs.length + 1) * 1) = xs.length * 1 by omega, List.map_append] at h1
    rw [h1, List.take_append_of_le_length (by simp), List.take_of_length_le (by simp)]
theorem rkTo_le {xs : List Int} (h6 : xs.length ≤ 6) (hlv : lvB xs = true) : ∀ k, k < xs.length → ∀ l, l ≤ (nth xs k).toNat → sumTo (fun l => cntL (xs.take k ++ [(l : Int)]) xs.length) l ≤ 420000000000 := by
  intro k hk l hl
  have ⟨z0, z1⟩ := lv_lt hlv hk
  have hvt : ∀ j, j < (xs.take k).length → 0 ≤ nth (xs.take k) j ∧ nth (xs.take k) j < ((xs.length : Nat) : Int) := by
    intro j hj
    rw [List.length_take] at hj
    have := lv_lt hlv (k := j) (by omega)
    have e : nth (xs.take k) j = nth xs j := by simp [nth, List.getD_eq_getElem?_getD, List.getElem?_take]; rw [if_pos (by omega)]
    rw [e]; exact this
  have h1 := sumTo_le (f := fun l => cntL (xs.take k ++ [(l : Int)]) xs.length) (c := 70000000000) (k := l) (fun j hj => cntL_le h6 (vals_snoc hvt (by omega)))
  have := Nat.mul_le_mul (show l ≤ 6 by omega) (Nat.le_refl 70000000000)
  omega
theorem rkTo_le2 {xs : List Int} (h6 : xs.length ≤ 6) (hlv : lvB xs = true) : ∀ k, k ≤ xs.length → rkTo xs k ≤ 2520000000000 := by
  intro k hk
  have h1 := sumTo_le (f := fun j => sumTo (fun l => cntL (xs.take j ++ [(l : Int)]) xs.length) (nth xs j).toNat) (c := 420000000000) (k := k) (fun j hj => rkTo_le h6 hlv j (by omega) _ (Nat.le_refl _))
  have := Nat.mul_le_mul (show k ≤ 6 by omega) (Nat.le_refl 420000000000)
  rw [rkTo]
  omega
set_option maxRecDepth 100000 in
theorem iRank_any (a : Option Addr) (xs : List Int) (cap : Nat) (w : World) (hx : Rd w a xs) :
    Calls Try.prog 43 #[.slice a xs.length cap] w fun e w' => e = .returned (.tuple #[.int .i64 (rkV xs), .bool (rkB xs)]) ∧ Below w.heap.size w w' := by
  have hlen := hx.len
  obtain ⟨i0, hi, hz0, hz1, hz2⟩ := info_parts infoInt
  cases hlv : lvB xs
  · have HL := Lib.hid hlv
    have H2 : Hid (rkB xs = false) := by simp [Hid, rkB, hlv]
    have H1 : Hid (rkV xs = 0) := by rw [Hid, rkV, H2.out]; rfl
    clear hlv
    go_enter Try.func43, Try.ntmps43
    go_wp2_with fail
    refine (iAreLevels_any _ _ _ _ hx).mono ?_
    rintro e w1 ⟨rfl, rfl⟩
    rw [HL.out]
    go_wp2_with fail
    go_ret2
    exact ⟨ret_ib H1.out.symm H2.out.symm, Below.refl _ _⟩
  · by_cases h6 : xs.length ≤ 6
    · have HL := Lib.hid hlv
      have H2 : Hid (rkB xs = true) := by simp [Hid, rkB, hlv, h6]
      have H1 : Hid (rkV xs = ((rkTo xs xs.length : Nat) : Int)) := by rw [Hid, rkV, H2.out]; rfl
      have HB1 := Lib.hid (rkTo_le h6 hlv)
      have HB2 := Lib.hid (rkTo_le2 h6 hlv)
      have HV : Hid (∀ k, k < xs.length → 0 ≤ nth xs k ∧ nth xs k < (xs.length : Int)) := fun k hk => lv_lt hlv hk
      clear hlv
      go_enter Try.func43, Try.ntmps43
      go_wp2_with fail
      refine (iAreLevels_any _ _ _ _ hx).mono ?_
      rintro e w1 ⟨rfl, rfl⟩
      rw [HL.out]
      go_wp2_with (at_make; refine wpList_make_own _ rfl _ (.tmp 18) 22 rfl w.heap.size 3 i0 (.int .i64 0) 1 Try.underlying22 hi hz0 hz1 .i64 .i64 _ xs.length rfl rfl rfl (by rw [hz2]; omega) (by unfold maxLen; omega) (Nat.le_refl _) ?_; intro w1 hown hgrow)
      have hb1 : Below w.heap.size w w1 := grown_below (g := w.heap.size) ⟨hgrow.os, hgrow.tape, hgrow.output, hgrow.size, fun k hk _ => hgrow.block k hk (by simp)⟩ _ (Nat.le_refl _) (Nat.le_refl _)
      clear hgrow
      have hN : xs.length ≤ 6 := h6
      obtain ⟨G, hG⟩ : ∃ G, G = w.heap.size := ⟨_, rfl⟩
      have hown0 : OwnI w1 w.heap.size (.slice (some ⟨G, 0, none⟩) 0 xs.length) [] := by rw [hG]; exact hown
      clear hown
      have HG := Lib.hid hG
      clear hG
      go_loopw [4, 5, 22] (fun r v i wr => ∃ k : Nat, k ≤ xs.length ∧ i = .int .i64 k ∧ r = .int .i64 ((rkTo xs k : Nat) : Int) ∧ v = .slice (some ⟨G, 0, none⟩) k xs.length ∧ OwnI wr w.heap.size (.slice (some ⟨G, 0, none⟩) k xs.length) (xs.take k) ∧ Below w.heap.size w wr) (fun _ _ i _ => xs.length - (intOf i).toNat)
      case atStart => exact ⟨0, Nat.zero_le _, rfl, rfl, by rw [HG.out], hown0, hb1⟩
      case round =>
        obtain ⟨k, hk, rfl, rfl, rfl, ho, hb⟩ := hrel
        have hr2 := HB2.out k hk
        by_cases hlt : k < xs.length
        · have k1 : (k : Int) < (xs.length : Int) := by omega
          obtain ⟨b, off, rfl, hbl, hc⟩ := (hx.below hb).cell k hlt
          have ⟨z0, z1⟩ := HV.out k hlt
          obtain ⟨Z, hZ⟩ := Int.eq_ofNat_of_zero_le z0
          have HB3 : Hid (∀ l, l ≤ Z → sumTo (fun l => cntL (xs.take k ++ [(l : Int)]) xs.length) l ≤ 420000000000) := fun l hl => HB1.out k hlt l (by rw [hZ]; exact hl)
          have HN : Hid (rkTo xs (k+1) = rkTo xs k + sumTo (fun l => cntL (xs.take k ++ [(l : Int)]) xs.length) Z) := by rw [Hid, rkTo, sumTo, ← rkTo, hZ]; rfl
          have HT1 : Hid (xs.take (k+1) = xs.take k ++ [(Z : Int)]) := by
            rw [Hid, List.take_succ_eq_append_getElem hlt]
            congr 2
            rw [← hZ, nth_get _ _ hlt]
          have HCN : Hid (∀ (l : Nat) (w : World), l < Z → Rd w (some ⟨G, 0, none⟩) (xs.take k ++ [(l : Int)]) → Calls Try.prog 61 #[.slice (some ⟨G, 0, none⟩) (k + 1) xs.length, .int .i64 (xs.length : Int)] w fun e w' => e = .returned (.int .i64 ((cntL (xs.take k ++ [(l : Int)]) xs.length : Nat) : Int)) ∧ w = w') := by
            intro l w hl hr
            have hvt : ∀ j, j < (xs.take k).length → 0 ≤ nth (xs.take k) j ∧ nth (xs.take k) j < ((xs.length : Nat) : Int) := by
              intro j hj
              rw [List.length_take] at hj
              have := HV.out j (by omega)
              have e : nth (xs.take k) j = nth xs j := by simp [nth, List.getD_eq_getElem?_getD, List.getElem?_take]; rw [if_pos (by omega)]
              rw [e]; exact this
            have h := iCnt_any (some ⟨G, 0, none⟩) (xs.take k ++ [(l : Int)]) xs.length xs.length w hr (by simp; omega) (by omega) (vals_snoc hvt (by omega))
            rw [show (xs.take k ++ [(l : Int)]).length = k + 1 by simp; omega] at h
            exact h
          rw [hZ] at hc z1
          obtain ⟨T, hT⟩ : ∃ T, T = xs.take k := ⟨_, rfl⟩
          have HTL : Hid (T.length = k) := by rw [Hid, hT, List.length_take]; omega
          rw [← hT] at ho HB3 HN HT1 HCN
          obtain ⟨S, hS⟩ : ∃ S, S = rkTo xs k := ⟨_, rfl⟩
          rw [← hS] at hr2 HN ⊢
          obtain ⟨C, hC⟩ : ∃ C, C = fun l : Nat => cntL (T ++ [(l : Int)]) xs.length := ⟨_, rfl⟩
          have HC : Hid (∀ l : Nat, cntL (T ++ [(l : Int)]) xs.length = C l) := fun l => by rw [hC]
          rw [← hC] at HB3 HN
          clear hC hS hT hZ z0
          have hbs := hb.size
          go_wp2_with fail
          go_loopw [4, 27] (fun r i wq => ∃ l : Nat, l ≤ Z ∧ i = .int .i64 l ∧ r = .int .i64 ((S + sumTo C l : Nat) : Int) ∧ OwnI wq w.heap.size (.slice (some ⟨G, 0, none⟩) k xs.length) T ∧ Below w.heap.size w wq) (fun _ i _ => Z - (intOf i).toNat)
          case atStart => exact ⟨0, Nat.zero_le _, rfl, by simp [sumTo], ho, hb⟩
          case round =>
            obtain ⟨l, hl, rfl, rfl, hoq, hbq⟩ := hrel
            have hq := HB3.out l hl
            have hbqs := hbq.size
            by_cases hlt2 : l < Z
            · have k2 : (l : Int) < (Z : Int) := by omega
              go_wp2_with (at_builtin; refine wpList_append_fits _ rfl _ _ 22 rfl w.heap.size 3 i0 1 Try.underlying22 hi hz1 G k xs.length (T.map (Value.int .i64)) rfl (by have h := hoq.alloc (.cells #[.int .i64 (l : Int)] 3); unfold OwnI at h; rw [HTL.out] at h; exact h) ⟨wr.heap.size, 0, none⟩ 1 1 [.int .i64 (l : Int)] rfl rfl (cell_one_new _ _ _) (by intro u hu; simp at hu; subst hu; rfl) (by omega) ?_)
              intro w3 hown3 hgrow
              have hU := (hoq.lt G rfl).1
              have hg2 := grown_alloc_set hgrow
              have b3 : Below w.heap.size w w3 := hbq.trans (grown_below hg2 _ hU hbqs)
              have o3 : OwnI w3 w.heap.size (.slice (some ⟨G, 0, none⟩) (k + 1) xs.length) (T ++ [(l : Int)]) := by
                unfold OwnI
                rw [List.length_append, HTL.out, List.map_append]
                exact hown3
              have o4 := o3.init
              rw [HTL.out] at o4
              have hcl : C l ≤ 420000000000 := by have := HB3.out (l+1) (by omega); rw [sumTo] at this; omega
              have HN3 : Hid (sumTo C (l+1) = sumTo C l + C l) := rfl
              clear hown3 hgrow hg2
              go_wp2_with fail
              refine (HCN.out l w3 hlt2 o3.rd).mono ?_
              rintro e w4 ⟨rfl, rfl⟩
              rw [HC.out l]
              go_wp2_with fail
              go_roundw
              case rel => exact ⟨l + 1, by omega, by go_num, val_int (by rw [HN3.out]; omega), o4, b3⟩
              case measure => simp [intOf]; omega
            · obtain rfl : l = Z := by omega
              go_wp2_with (at_builtin; refine wpList_append_fits _ rfl _ _ 22 rfl w.heap.size 3 i0 1 Try.underlying22 hi hz1 G k xs.length (T.map (Value.int .i64)) rfl (by have h := hoq.alloc (.cells #[.int .i64 (l : Int)] 3); unfold OwnI at h; rw [HTL.out] at h; exact h) ⟨wr.heap.size, 0, none⟩ 1 1 [.int .i64 (l : Int)] rfl rfl (cell_one_new _ _ _) (by intro u hu; simp at hu; subst hu; rfl) (by omega) ?_)
              intro w3 hown3 hgrow
              have hU := (hoq.lt G rfl).1
              have hg2 := grown_alloc_set hgrow
              have b3 : Below w.heap.size w w3 := hbq.trans (grown_below hg2 _ hU hbqs)
              have o3 : OwnI w3 w.heap.size (.slice (some ⟨G, 0, none⟩) (k + 1) xs.length) (T ++ [(l : Int)]) := by
                unfold OwnI
                rw [List.length_append, HTL.out, List.map_append]
                exact hown3
              clear hown3 hgrow hg2
              go_wp2_with fail
              go_roundw
              case rel => exact ⟨k + 1, by omega, by go_num, val_int (by rw [HN.out]; omega), rfl, by rw [HT1.out]; exact o3, b3⟩
              case measure => simp [intOf]; omega
        · obtain rfl : k = xs.length := by omega
          go_wp2_with fail
          go_ret2
          exact ⟨ret_ib H1.out.symm H2.out.symm, hb⟩
    · have HL := Lib.hid hlv
      have H2 : Hid (rkB xs = false) := by simp [Hid, rkB, h6]
      have H1 : Hid (rkV xs = 0) := by rw [Hid, rkV, H2.out]; rfl
      clear hlv
      go_enter Try.func43, Try.ntmps43
      go_wp2_with fail
      refine (iAreLevels_any _ _ _ _ hx).mono ?_
      rintro e w1 ⟨rfl, rfl⟩
      rw [HL.out]
      go_wp2_with fail
      go_ret2
      exact ⟨ret_ib H1.out.symm H2.out.symm, Below.refl _ _⟩

set_option maxRecDepth 100000 in
theorem iLwith_any (n r : Int) (w : World) (hn : -9223372036854775808 ≤ n ∧ n ≤ 9223372036854775807) (hr : -9223372036854775808 ≤ r ∧ r ≤ 9223372036854775807) :
    Calls Try.prog 45 #[.int .i64 n, .int .i64 r] w fun e w' => ∃ a' cap', e = .returned (.tuple #[.slice a' (lwL n r).length cap', .bool (lwB n r)]) ∧ OwnI w' w.heap.size (.slice a' (lwL n r).length cap') (lwL n r) ∧ Below w.heap.size w w' := by
  obtain ⟨i0, hi, hz0, hz1, hz2⟩ := info_parts infoInt
  have HNO : Hid (lwB n r = false → lwL n r = []) := fun hh => by simp [lwL, hh]
  by_cases h0 : n < 0
  · have H2 : Hid (lwB n r = false) := by rw [Hid, lwB, inB_no.2 (by omega)]; rfl
    go_enter Try.func45, Try.ntmps45
    go_wp2_with fail
    refine bodyPost_ret (v := .tuple #[.slice none 0 0, .bool false]) (by simp [results, Try.results45, go_sem]) rfl ?_
    exact ⟨none, 0, by rw [HNO.out H2.out, H2.out]; rfl, by rw [HNO.out H2.out]; exact OwnI.nil _ _, Below.refl _ _⟩
  · by_cases h1 : 6 < n
    · have H2 : Hid (lwB n r = false) := by rw [Hid, lwB, inB_no.2 (by omega)]; rfl
      go_enter Try.func45, Try.ntmps45
      go_wp2_with fail
      refine bodyPost_ret (v := .tuple #[.slice none 0 0, .bool false]) (by simp [results, Try.results45, go_sem]) rfl ?_
      exact ⟨none, 0, by rw [HNO.out H2.out, H2.out]; rfl, by rw [HNO.out H2.out]; exact OwnI.nil _ _, Below.refl _ _⟩
    · by_cases h2 : r < 0
      · have H2 : Hid (lwB n r = false) := by rw [Hid, lwB, Bool.and_eq_false_iff]; exact .inr (inB_no.2 (by omega))
        go_enter Try.func45, Try.ntmps45
        go_wp2_with fail
        refine bodyPost_ret (v := .tuple #[.slice none 0 0, .bool false]) (by simp [results, Try.results45, go_sem]) rfl ?_
        exact ⟨none, 0, by rw [HNO.out H2.out, H2.out]; rfl, by rw [HNO.out H2.out]; exact OwnI.nil _ _, Below.refl _ _⟩
      · obtain ⟨N, rfl⟩ := Int.eq_ofNat_of_zero_le (by omega : 0 ≤ n)
        obtain ⟨K, rfl⟩ := Int.eq_ofNat_of_zero_le (by omega : 0 ≤ r)
        have hN : N ≤ 6 := by omega
        have hlenA := waL_len hN N [] (by simp) (fun j hj => by simp at hj)
        have HLA := Lib.hid hlenA
        have hcall := iCnt_any none [] 0 N w ⟨by simp, fun k hk => by simp at hk⟩ (by simp) (by omega) (fun j hj => by simp at hj)
        have hcle := cntL_le (xs := []) hN (fun j hj => by simp at hj)
        obtain ⟨C0, hC0⟩ : ∃ C, C = cntL [] N := ⟨_, rfl⟩
        rw [← hC0] at hlenA hcall hcle
        have HCA := Lib.hid hcall
        have HLEN := Lib.hid hlenA
        clear hcall hC0 hlenA h0 h1 h2
        by_cases hK : C0 ≤ K
        · have H2 : Hid (lwB (N : Int) (K : Int) = false) := by
            rw [Hid, lwB, Bool.and_eq_false_iff, Int.toNat_natCast, HLEN.out]; exact .inr (inB_no.2 (by omega))
          go_enter Try.func45, Try.ntmps45
          go_wp2_with fail
          refine HCA.out.mono ?_
          rintro e w' ⟨rfl, rfl⟩
          go_wp2_with fail
          refine bodyPost_ret (v := .tuple #[.slice none 0 0, .bool false]) (by simp [results, Try.results45, go_sem]) rfl ?_
          exact ⟨none, 0, by rw [HNO.out H2.out, H2.out]; rfl, by rw [HNO.out H2.out]; exact OwnI.nil _ _, Below.refl _ _⟩
        · have hKl : K < (waL N N []).length := by rw [HLEN.out]; omega
          have H2 : Hid (lwB (N : Int) (K : Int) = true) := by
            rw [Hid, lwB, Bool.and_eq_true, Int.toNat_natCast, HLEN.out]; exact ⟨inB_iff.2 (by omega), inB_iff.2 (by omega)⟩
          have H1 : Hid (lwL (N : Int) (K : Int) = rowL (waL N N []) K) := by rw [Hid, lwL, if_pos H2.out]; rfl
          have HXL : Hid ((lwL (N : Int) (K : Int)).length = N) := by
            have := waL_row _ _ (rowL_mem hKl)
            rw [Hid, H1.out, this]; simp
          obtain ⟨X, hX⟩ : ∃ X, X = lwL (N : Int) (K : Int) := ⟨_, rfl⟩
          rw [← hX] at H1 HXL
          have HX := Lib.hid hX
          have HKL := Lib.hid hKl
          clear hX hKl
          go_enter Try.func45, Try.ntmps45
          go_wp2_with fail
          refine HCA.out.mono ?_
          rintro e w' ⟨rfl, rfl⟩
          go_wp2_with (at_make; refine wpList_make_own _ rfl _ (.tmp 25) 22 rfl w.heap.size 3 i0 (.int .i64 0) 1 Try.underlying22 hi hz0 hz1 .i64 .i64 _ N rfl rfl rfl (by rw [hz2]; omega) (by unfold maxLen; omega) (Nat.le_refl _) ?_; intro w1 hown hgrow)
          have hb1 : Below w.heap.size w w1 := grown_below (g := w.heap.size) ⟨hgrow.os, hgrow.tape, hgrow.output, hgrow.size, fun k hk _ => hgrow.block k hk (by simp)⟩ _ (Nat.le_refl _) (Nat.le_refl _)
          clear hgrow
          obtain ⟨G, hG⟩ : ∃ G, G = w.heap.size := ⟨_, rfl⟩
          have hown0 : OwnI w1 w.heap.size (.slice (some ⟨G, 0, none⟩) 0 N) [] := by rw [hG]; exact hown
          clear hown
          have HG := Lib.hid hG
          clear hG
          go_loopw [1, 6, 28] (fun r v i wr => ∃ (k R : Nat) (T : List Int), k ≤ N ∧ i = .int .i64 k ∧ r = .int .i64 R ∧ v = .slice (some ⟨G, 0, none⟩) k N ∧ Hid (T.length = k) ∧ OwnI wr w.heap.size (.slice (some ⟨G, 0, none⟩) k N) T ∧ Hid (∀ j, j < T.length → 0 ≤ nth T j ∧ nth T j < (N : Int)) ∧ Hid (R < (waL N (N - k) T).length) ∧ Hid (rowL (waL N (N - k) T) R = X) ∧ Below w.heap.size w wr) (fun _ _ i _ => N - (intOf i).toNat)
          case atStart => exact ⟨0, K, [], Nat.zero_le _, rfl, rfl, by rw [HG.out], rfl, hown0, fun j hj => by simp at hj, HKL.out, H1.out.symm, hb1⟩
          case round =>
            obtain ⟨k, R, T, hk, rfl, rfl, rfl, HTL, ho, HV, HR, HRX, hb⟩ := hrel
            by_cases hlt : k < N
            · have k1 : (k : Int) < (N : Int) := by omega
              obtain ⟨d, hd⟩ : ∃ d, N - k = d + 1 := ⟨N - k - 1, by omega⟩
              rw [hd] at HR HRX
              have HD : Hid (N - (k + 1) = d) := by rw [Hid]; omega
              have HKD : Hid (k + (d + 1) = N) := by rw [Hid]; omega
              clear hd
              have HLN : Hid (∀ l : Nat, l < N → (waL N d (T ++ [(l : Int)])).length = cntL (T ++ [(l : Int)]) N) := fun l hl => waL_len hN d _ (by have h3 := HTL.out; have h4 := HKD.out; simp; omega) (vals_snoc HV.out hl)
              have HCLE : Hid (∀ l : Nat, l < N → cntL (T ++ [(l : Int)]) N ≤ 70000000000) := fun l hl => cntL_le hN (vals_snoc HV.out hl)
              have HTOT : Hid (R < sumTo (fun l => cntL (T ++ [(l : Int)]) N) N) := by
                have h3 := HR.out
                rw [waL, catTo_len] at h3
                rw [Hid, ← sumTo_congr (fun l hl => HLN.out l hl)]
                exact h3
              have HCN : Hid (∀ (l : Nat) (w : World), l < N → Rd w (some ⟨G, 0, none⟩) (T ++ [(l : Int)]) → Calls Try.prog 61 #[.slice (some ⟨G, 0, none⟩) (k + 1) N, .int .i64 (N : Int)] w fun e w' => e = .returned (.int .i64 ((cntL (T ++ [(l : Int)]) N : Nat) : Int)) ∧ w = w') := by
                intro l w hl hr
                have h3 := HTL.out
                have h := iCnt_any (some ⟨G, 0, none⟩) (T ++ [(l : Int)]) N N w hr (by simp; omega) (by omega) (vals_snoc HV.out hl)
                rw [show (T ++ [(l : Int)]).length = k + 1 by simp; omega] at h
                exact h
              have HNX : Hid (∀ l : Nat, l < N → sumTo (fun l => cntL (T ++ [(l : Int)]) N) l ≤ R → R - sumTo (fun l => cntL (T ++ [(l : Int)]) N) l < cntL (T ++ [(l : Int)]) N → R - sumTo (fun l => cntL (T ++ [(l : Int)]) N) l < (waL N d (T ++ [(l : Int)])).length ∧ rowL (waL N d (T ++ [(l : Int)])) (R - sumTo (fun l => cntL (T ++ [(l : Int)]) N) l) = X) := by
                intro l hl h3 h4
                have h5 : R - sumTo (fun l => cntL (T ++ [(l : Int)]) N) l < (waL N d (T ++ [(l : Int)])).length := by rw [HLN.out l hl]; exact h4
                refine ⟨h5, ?_⟩
                have h6 := cat_at (f := fun x : Nat => waL N d (T ++ [(x : Int)])) (j := l) (p := R - sumTo (fun l => cntL (T ++ [(l : Int)]) N) l) h5 (k := N) hl
                rw [catTo_len, sumTo_congr (fun x hx => HLN.out x (by omega)), show sumTo (fun l => cntL (T ++ [(l : Int)]) N) l + (R - sumTo (fun l => cntL (T ++ [(l : Int)]) N) l) = R by omega] at h6
                rw [← h6]
                exact HRX.out
              have HVS : Hid (∀ l : Nat, l < N → ∀ j, j < (T ++ [(l : Int)]).length → 0 ≤ nth (T ++ [(l : Int)]) j ∧ nth (T ++ [(l : Int)]) j < (N : Int)) := fun l hl => vals_snoc HV.out hl
              obtain ⟨C, hC⟩ : ∃ C, C = fun l : Nat => cntL (T ++ [(l : Int)]) N := ⟨_, rfl⟩
              have HC : Hid (∀ l : Nat, cntL (T ++ [(l : Int)]) N = C l) := fun l => by rw [hC]
              rw [← hC] at HTOT
              have HNX2 : Hid (∀ l : Nat, l < N → sumTo C l ≤ R → R - sumTo C l < C l → R - sumTo C l < (waL N d (T ++ [(l : Int)])).length ∧ rowL (waL N d (T ++ [(l : Int)])) (R - sumTo C l) = X) := by rw [hC]; exact HNX.out
              have HCL2 : Hid (∀ l : Nat, l < N → C l ≤ 70000000000) := by rw [hC]; exact HCLE.out
              have hR9 : R ≤ 420000000000 := by
                have h3 := HTOT.out
                have h4 := sumTo_le (f := C) (c := 70000000000) (k := N) (fun j hj => HCL2.out j hj)
                have := Nat.mul_le_mul hN (Nat.le_refl 70000000000)
                omega
              clear hC HNX HCLE
              have hbs := hb.size
              go_wp2_with fail
              go_loopw [1, 7] (fun r i wq => ∃ l : Nat, l < N ∧ i = .int .i64 l ∧ r = .int .i64 ((R - sumTo C l : Nat) : Int) ∧ Hid (sumTo C l ≤ R) ∧ OwnI wq w.heap.size (.slice (some ⟨G, 0, none⟩) k N) T ∧ Below w.heap.size w wq) (fun _ i _ => N - (intOf i).toNat)
              case atStart => exact ⟨0, by omega, rfl, by simp [sumTo], Nat.zero_le _, ho, hb⟩
              case round =>
                obtain ⟨l, hl, rfl, rfl, HQ, hoq, hbq⟩ := hrel
                have hbqs := hbq.size
                have k2 : (l : Int) < (N : Int) := by omega
                have hcl := HCL2.out l hl
                go_wp2_with (at_builtin; refine wpList_append_fits _ rfl _ _ 22 rfl w.heap.size 3 i0 1 Try.underlying22 hi hz1 G k N (T.map (Value.int .i64)) rfl (by have h := hoq.alloc (.cells #[.int .i64 (l : Int)] 3); unfold OwnI at h; rw [HTL.out] at h; exact h) ⟨wr.heap.size, 0, none⟩ 1 1 [.int .i64 (l : Int)] rfl rfl (cell_one_new _ _ _) (by intro u hu; simp at hu; subst hu; rfl) (by omega) ?_)
                intro w3 hown3 hgrow
                have hU := (hoq.lt G rfl).1
                have hg2 := grown_alloc_set hgrow
                have b3 : Below w.heap.size w w3 := hbq.trans (grown_below hg2 _ hU hbqs)
                have o3 : OwnI w3 w.heap.size (.slice (some ⟨G, 0, none⟩) (k + 1) N) (T ++ [(l : Int)]) := by
                  unfold OwnI
                  rw [List.length_append, HTL.out, List.map_append]
                  exact hown3
                have o4 := o3.init
                rw [HTL.out] at o4
                have HN3 : Hid (sumTo C (l+1) = sumTo C l + C l) := rfl
                obtain ⟨Q, hQ⟩ : ∃ Q, Q = R - sumTo C l := ⟨_, rfl⟩
                rw [← hQ]
                have HQQ := Lib.hid hQ
                have hQ9 : Q ≤ 420000000000 := by omega
                clear hown3 hgrow hg2 hQ
                have hb3s := b3.size
                go_wp2_with fail
                refine (HCN.out l w3 hl o3.rd).mono ?_
                rintro e w4 ⟨rfl, rfl⟩
                rw [HC.out l]
                by_cases hq : Q < C l
                · go_wp2_with (at_builtin; refine wpList_append_fits _ rfl _ _ 22 rfl w.heap.size 3 i0 1 Try.underlying22 hi hz1 G k N (T.map (Value.int .i64)) rfl (by have h := o4.alloc (.cells #[.int .i64 (l : Int)] 3); unfold OwnI at h; rw [HTL.out] at h; exact h) ⟨w3.heap.size, 0, none⟩ 1 1 [.int .i64 (l : Int)] rfl rfl (cell_one_new _ _ _) (by intro u hu; simp at hu; subst hu; rfl) (by omega) ?_)
                  intro w5 hown5 hgrow
                  have hg2 := grown_alloc_set hgrow
                  have b5 : Below w.heap.size w w5 := b3.trans (grown_below hg2 _ hU hb3s)
                  have o5 : OwnI w5 w.heap.size (.slice (some ⟨G, 0, none⟩) (k + 1) N) (T ++ [(l : Int)]) := by
                    unfold OwnI
                    rw [List.length_append, HTL.out, List.map_append]
                    exact hown5
                  clear hown5 hgrow hg2
                  have HNN := Lib.hid (HNX2.out l hl HQ.out (by rw [← HQQ.out]; exact hq))
                  rw [← HQQ.out] at HNN
                  have HTL2 : Hid ((T ++ [(l : Int)]).length = k + 1) := by have := HTL.out; rw [Hid]; simp; omega
                  go_wp2_with fail
                  go_roundw
                  case rel => exact ⟨k + 1, Q, T ++ [(l : Int)], by omega, by go_num, rfl, rfl, HTL2, o5, HVS.out l hl, by rw [HD.out]; exact HNN.out.1, by rw [HD.out]; exact HNN.out.2, b5⟩
                  case measure => simp [intOf]; omega
                · have HNL : Hid (l + 1 < N) := by
                    rw [Hid]
                    refine Nat.lt_of_not_le fun h3 => ?_
                    obtain rfl : N = l + 1 := by omega
                    have h4 := HTOT.out
                    have h5 := HN3.out
                    have h6 := HQQ.out
                    have h7 := HQ.out
                    omega
                  go_wp2_with fail
                  go_roundw
                  case rel => exact ⟨l + 1, HNL.out, by go_num, val_int (by have h4 := HN3.out; have h5 := HQQ.out; rw [h4]; omega), by have h4 := HN3.out; have h5 := HQQ.out; have h6 := HQ.out; rw [Hid, h4]; omega, o4, b3⟩
                  case measure => simp [intOf]; omega
            · obtain rfl : k = N := by omega
              have HE : Hid (T = X) := by
                have h3 := HR.out
                have h4 := HRX.out
                rw [Nat.sub_self, waL] at h3 h4
                split at h3
                · rename_i h5
                  rw [if_pos h5] at h4
                  obtain rfl : R = 0 := by simp at h3; exact h3
                  exact h4
                · simp at h3
              have hoX := ho
              rw [HE.out] at hoX
              go_wp2_with fail
              refine bodyPost_ret (v := .tuple #[.slice (some ⟨G, 0, none⟩) k k, .bool true]) (by simp [results, Try.results45, go_sem]) rfl ?_
              exact ⟨some ⟨G, 0, none⟩, k, by rw [← HX.out, HXL.out, H2.out], by rw [← HX.out, HXL.out]; exact hoX, hb⟩

/-- the marks k, k + 1, .. -/
def marks (k : Int) (n : Nat) : List Int := (List.range n).map (fun (j : Nat) => k + (j : Int))
theorem marks_len (k : Int) (n : Nat) : (marks k n).length = n := by simp [marks]
theorem marks_nth {k : Int} {n j : Nat} (h : j < n) : nth (marks k n) j = k + j := by
  simp [nth, marks, h]
theorem mark_step (k : Int) (xs : List Int) (j : Nat) (h : j < xs.length) :
    ((marks k j ++ xs.drop j).map (Value.int .i64)).set j (.int .i64 (k + j)) = (marks k (j+1) ++ xs.drop (j+1)).map (Value.int .i64) := by
  apply List.ext_getElem?
  intro i
  rw [List.getElem?_set]
  by_cases hj : j = i
  · subst hj
    rw [if_pos rfl, if_pos (by simp [marks_len]; omega), List.getElem?_map, List.getElem?_append_left (by rw [marks_len]; omega)]
    simp [marks]
  · simp only [hj, if_false, List.getElem?_map, List.getElem?_append, marks_len, List.getElem?_drop]
    by_cases h1 : i < j
    · have h2 : i < j + 1 := by omega
      simp [h1, h2, marks]
    · have h2 : ¬ i < j + 1 := by omega
      have h3 : j + (i - j) = j + 1 + (i - (j + 1)) := by omega
      simp [h1, h2, h3]
theorem own_ne {v u : Value} (h : ∀ c, v.ownBlock = some c → u.ownBlock ≠ some c) : v.ownBlock = none ∨ v.ownBlock ≠ u.ownBlock := by
  cases hv : v.ownBlock with
  | none => exact .inl rfl
  | some c => exact .inr (fun e => h c hv e.symm)

theorem markIntS_any (a : Option Addr) (xs : List Int) (cap : Nat) (k : Int) (B : Nat) (w : World) (h0 : 0 ≤ k) (h1 : k ≤ 1099511627776) (hn : xs.length ≤ 1048576) (ho : OwnI w B (.slice a xs.length cap) xs) :
    Calls Try.prog 30 #[.slice a xs.length cap, .int .i64 k] w fun e w' => e = .returned (.int .i64 (k + xs.length)) ∧ OwnI w' B (.slice a xs.length cap) (marks k xs.length) ∧ w.grownBy w' (Value.slice a xs.length cap).ownBlock := by
  go_enter Try.func30, Try.ntmps30
  go_wp2_with fail
  go_loopw [1, 5] (fun k' i wr => ∃ j : Nat, j ≤ xs.length ∧ i = .int .i64 j ∧ k' = .int .i64 (k + j) ∧ wr.ownsRow B 3 1 (.slice a xs.length cap) xs.length ((marks k j ++ xs.drop j).map (Value.int .i64)) ∧ w.grownBy wr (Value.slice a xs.length cap).ownBlock) (fun _ i _ => xs.length - (intOf i).toNat)
  case atStart => exact ⟨0, Nat.zero_le _, rfl, by simp, by (have e : marks k 0 ++ xs.drop 0 = xs := by simp [marks]); rw [e]; exact ho, World.grownBy.refl _ _⟩
  case round =>
    obtain ⟨j, hj, rfl, rfl, hown, hg⟩ := hrel
    by_cases hlt : j < xs.length
    · obtain ⟨g, rfl⟩ : ∃ g, a = some ⟨g, 0, none⟩ := by
        rcases hown.2 with ⟨e, h⟩ | ⟨g, c, cur, e, _⟩
        · omega
        · simp only [Value.slice.injEq] at e
          exact ⟨g, e.1⟩
      have hst := World.ownsRow.stored hown j (.int .i64 (k + j))
      rw [mark_step k xs j hlt] at hst
      have hcc := World.ownsRow.cellAt hown j (by omega)
      have hfr := World.ownsRow.frozenAt hown j
      have hcc' : ∃ u, wr.cell? ⟨g, j, none⟩ = some u := by
        rw [hcc]
        exact ⟨_, List.getElem?_eq_getElem (by simp [marks_len]; omega)⟩
      obtain ⟨u, hu⟩ := hcc'
      have Hst := Lib.hid hst
      have Hg := Lib.hid (grown_trans hg hst.2)
      clear hst hcc hown hg
      go_wp2
      go_roundw
      case rel => exact ⟨j + 1, by omega, by go_num, by go_num, Hst.out.1, Hg.out⟩
      case measure => simp [intOf]; omega
    · obtain rfl : j = xs.length := by omega
      go_wp2
      go_ret
      refine ⟨rfl, ?_, hg⟩
      have e : marks k xs.length ++ xs.drop xs.length = marks k xs.length := by simp
      rw [e] at hown
      show World.ownsRow _ _ _ _ _ _ _
      rw [marks_len]
      exact hown

def eqL (xs ys : List Int) : Bool := decide (xs = ys)
theorem eqIntS_any (a b : Option Addr) (xs ys : List Int) (ca cb : Nat) (w : World) (hx : Rd w a xs) (hy : Rd w b ys) :
    Calls Try.prog 27 #[.slice a xs.length ca, .slice b ys.length cb] w fun e w' => e = .returned (.bool (eqL xs ys)) ∧ Below w.heap.size w w' := by
  have hlx := hx.len
  have hly := hy.len
  by_cases hl : xs.length = ys.length
  · have hl' : ((xs.length : Int) != (ys.length : Int)) = false := by simp [hl]
    go_enter Try.func27, Try.ntmps27
    have HL := Lib.hid hl
    clear hl
    go_wp2_with fail
    go_loopw [5] (fun i wr => ∃ k : Nat, k ≤ xs.length ∧ i = .int .i64 k ∧ xs.take k = ys.take k ∧ Below w.heap.size w wr) (fun i _ => xs.length - (intOf i).toNat)
    case atStart => exact ⟨0, Nat.zero_le _, rfl, rfl, Below.refl _ _⟩
    case round =>
      obtain ⟨k, hk, rfl, htk, hb⟩ := hrel
      have HT := Lib.hid htk
      clear htk
      by_cases hlt : k < xs.length
      · have hlt' : k < ys.length := by rw [← HL.out]; exact hlt
        obtain ⟨b1, o1, rfl, hb1, hc1⟩ := (hx.below hb).cell k hlt
        obtain ⟨b2, o2, rfl, hb2, hc2⟩ := (hy.below hb).cell k hlt'
        by_cases he : nth xs k = nth ys k
        · have he' : (nth xs k != nth ys k) = false := by simp [he]
          have HE := Lib.hid he
          clear he
          go_wp2_with fail
          go_quiet (fail)
          go_wp2_with fail
          go_roundw
          case rel =>
            refine ⟨k + 1, by omega, by go_num, ?_, by exact hb.trans (Joins.below_draws _ _ _)⟩
            rw [List.take_succ_eq_append_getElem hlt, List.take_succ_eq_append_getElem hlt', HT.out, ← nth_get, ← nth_get, HE.out]
          case measure => simp [intOf]; omega
        · have he' : (nth xs k != nth ys k) = true := by simp [he]
          have hne : eqL xs ys = false := by
            simp only [eqL, decide_eq_false_iff_not]
            intro e
            subst e
            exact he rfl
          have HN := Lib.hid hne
          clear he hne
          go_wp2_with fail
          go_quiet (fail)
          go_wp2_with fail
          go_ret
          exact ⟨ret_bool HN.out.symm, hb.trans (Joins.below_draws _ _ _)⟩
      · go_wp2_with fail
        go_ret
        refine ⟨ret_bool ?_, hb⟩
        have h1 := HT.out
        rw [List.take_of_length_le (by omega), List.take_of_length_le (by rw [← HL.out]; omega)] at h1
        simp [eqL, h1]
  · have hl' : ((xs.length : Int) != (ys.length : Int)) = true := by simp; omega
    have hne : eqL xs ys = false := by
      simp only [eqL, decide_eq_false_iff_not]
      intro e
      exact hl (by rw [e])
    have HN := Lib.hid hne
    clear hl hne
    go_enter Try.func27, Try.ntmps27
    go_wp2_with fail
    go_ret
    exact ⟨ret_bool HN.out.symm, Below.refl _ _⟩
theorem eqL_self (xs : List Int) : eqL xs xs = true := by simp [eqL]

theorem heldIntS_any (a : Option Addr) (n cap : Nat) (k : Int) (w : World) (h0 : 0 ≤ k) (h1 : k ≤ 1099511627776) (hn : n ≤ 1048576) (hx : Rd w a (marks k n)) :
    Calls Try.prog 31 #[.slice a n cap, .int .i64 k] w fun e w' => e = .returned (.int .i64 (k + n)) ∧ Below w.heap.size w w' := by
  go_enter Try.func31, Try.ntmps31
  go_wp2_with fail
  go_loop [1, 5] (fun k' i => ∃ j : Nat, j ≤ n ∧ i = .int .i64 j ∧ k' = .int .i64 (k + j)) (fun _ i => n - (intOf i).toNat)
  case atStart => exact ⟨0, Nat.zero_le _, rfl, by simp⟩
  case round =>
    obtain ⟨j, hj, rfl, rfl⟩ := hrel
    by_cases hlt : j < n
    · obtain ⟨b, off, rfl, hbl, hc⟩ := hx.cell j (by rw [marks_len]; exact hlt)
      rw [marks_nth hlt] at hc
      go_wp2_with fail
      go_round
      case rel => exact ⟨j + 1, by omega, by go_num, by go_num⟩
      case measure => simp [intOf]; omega
    · obtain rfl : j = n := by omega
      go_wp2_with fail
      go_ret
      exact ⟨rfl, (by repeat (first | exact Below.refl _ _ | assumption | refine Below.alloc ?_ (by first | exact Nat.le_refl _ | (simp only [World.size_alloc, World.size_setCell, World.size_drew]; omega) | omega) _ | refine Below.setCell ?_ (by first | exact Nat.le_refl _ | (simp only [World.size_alloc, World.size_setCell, World.size_drew]; omega) | omega) _ | refine Below.drew ?_))⟩

theorem walk (i0 : Int) (i1 : Int) (w : World) (hi0 : -9223372036854775808 ≤ i0 ∧ i0 ≤ 9223372036854775807) (hi1 : -9223372036854775808 ≤ i1 ∧ i1 ≤ 9223372036854775807) :
    Calls Try.prog 12 #[.int .i64 i0, .int .i64 i1] w fun e w' => e = .returned (.bool true) ∧ Below w.heap.size w w' := by
  have hR0 : (lwL i0 i1).length ≤ 1048576 := lwL_len i0 i1
  go_enter Try.func12, Try.ntmps12
  go_wp2_with fail
  refine (sLwith_any _ _ _ hi0 hi1).mono ?_
  rintro e w1 ⟨pR0, qR0, rfl, ho0, hb⟩
  have ht : Below w.heap.size w w1 := Below.trans (by repeat (first | exact Below.refl _ _ | assumption | refine Below.alloc ?_ (by first | exact Nat.le_refl _ | (simp only [World.size_alloc, World.size_setCell, World.size_drew]; omega) | omega) _ | refine Below.setCell ?_ (by first | exact Nat.le_refl _ | (simp only [World.size_alloc, World.size_setCell, World.size_drew]; omega) | omega) _ | refine Below.drew ?_)) (hb.mono (by first | (simp only [World.size_alloc, World.size_setCell, World.size_drew]; omega) | omega))
  have z1 : w.heap.size ≤ w1.heap.size := ht.size
  have bw1 : Below w.heap.size w w1 := ht
  have R0_1 := ho0
  have UR0 := R0_1.cut (Nat.le_refl _)
  clear ho0
  clear ht hb
  go_wp2_with fail
  refine (iLwith_any _ _ _ hi0 hi1).mono ?_
  rintro e w2 ⟨pG0, qG0, rfl, ho0, hb⟩
  have ht : Below w1.heap.size w1 w2 := hb
  have z2 : w1.heap.size ≤ w2.heap.size := ht.size
  have bw2 : Below w.heap.size w w2 := bw1.trans (ht.mono bw1.size)
  have R0_2 := R0_1.below ht (Nat.le_refl _)
  clear R0_1
  have G0_2 := ho0
  have UG0 := G0_2.cut (Nat.le_refl _)
  clear ho0
  clear ht hb
  go_wp2_with fail
  refine (eqIntS_any _ _ (lwL i0 i1) (lwL i0 i1) _ _ _ (G0_2.rd) (R0_2.rd)).mono ?_
  rw [eqL_self]
  rintro e w3 ⟨rfl, hb⟩
  have ht : Below w2.heap.size w2 w3 := hb
  have z3 : w2.heap.size ≤ w3.heap.size := ht.size
  have bw3 : Below w.heap.size w w3 := bw2.trans (ht.mono bw2.size)
  have R0_3 := R0_2.below ht (Nat.le_refl _)
  have G0_3 := G0_2.below ht (Nat.le_refl _)
  clear R0_2 G0_2
  clear ht hb
  go_wp2_with fail
  refine (markIntS_any _ _ _ _ _ _ (by omega) (by omega) hR0 G0_3).mono ?_
  rintro e w4 ⟨rfl, ho, hg⟩
  have z4 : w3.heap.size ≤ w4.heap.size := hg.size
  have bw4 : Below w.heap.size w w4 := bw3.trans (below_of_grown hg (fun b e => by have := UG0 b e; omega) (by omega))
  have R0_4 := R0_3.kept hg (own_ne (fun c e e2 => by have h1 := UR0 c e; have h2 := UG0 c e2; omega))
  clear R0_3 G0_3 hg
  have G0_4 := ho
  clear ho
  go_wp2_with fail
  refine (heldIntS_any _ _ _ _ _ (by omega) (by omega) hR0 G0_4.rd).mono ?_
  rintro e w5 ⟨rfl, hb⟩
  have ht : Below w4.heap.size w4 w5 := hb
  have z5 : w4.heap.size ≤ w5.heap.size := ht.size
  have bw5 : Below w.heap.size w w5 := bw4.trans (ht.mono bw4.size)
  have R0_5 := R0_4.below ht (Nat.le_refl _)
  have G0_5 := G0_4.below ht (Nat.le_refl _)
  clear R0_4 G0_4
  clear ht hb
  go_wp2_with fail
  refine (iLwith_any _ _ _ hi0 hi1).mono ?_
  rintro e w6 ⟨pH0, qH0, rfl, ho0, hb⟩
  have ht : Below w5.heap.size w5 w6 := hb
  have z6 : w5.heap.size ≤ w6.heap.size := ht.size
  have bw6 : Below w.heap.size w w6 := bw5.trans (ht.mono bw5.size)
  have R0_6 := R0_5.below ht (Nat.le_refl _)
  have G0_6 := G0_5.below ht (Nat.le_refl _)
  clear R0_5 G0_5
  have H0_6 := ho0
  have UH0 := H0_6.cut (Nat.le_refl _)
  clear ho0
  clear ht hb
  go_wp2_with fail
  refine (eqIntS_any _ _ (lwL i0 i1) (lwL i0 i1) _ _ _ (H0_6.rd) (R0_6.rd)).mono ?_
  rw [eqL_self]
  rintro e w7 ⟨rfl, hb⟩
  have ht : Below w6.heap.size w6 w7 := hb
  have z7 : w6.heap.size ≤ w7.heap.size := ht.size
  have bw7 : Below w.heap.size w w7 := bw6.trans (ht.mono bw6.size)
  have R0_7 := R0_6.below ht (Nat.le_refl _)
  have G0_7 := G0_6.below ht (Nat.le_refl _)
  have H0_7 := H0_6.below ht (Nat.le_refl _)
  clear R0_6 G0_6 H0_6
  clear ht hb
  go_wp2_with fail
  refine (heldIntS_any _ _ _ _ _ (by omega) (by omega) hR0 G0_7.rd).mono ?_
  rintro e w8 ⟨rfl, hb⟩
  have ht : Below w7.heap.size w7 w8 := hb
  have z8 : w7.heap.size ≤ w8.heap.size := ht.size
  have bw8 : Below w.heap.size w w8 := bw7.trans (ht.mono bw7.size)
  have R0_8 := R0_7.below ht (Nat.le_refl _)
  have G0_8 := G0_7.below ht (Nat.le_refl _)
  have H0_8 := H0_7.below ht (Nat.le_refl _)
  clear R0_7 G0_7 H0_7
  clear ht hb
  go_wp2_with fail
  go_ret
  exact ⟨rfl, bw8⟩

theorem rd_of_trod {H : Type} {enc : TypeId × Value → H} {W : World} {fuel : Nat} {c : Value} {y : DataW H × List MemPlace}
    (h : DataW.trod enc Try.prog W 0 (fun _ => true) true fuel 22 [c] = some y) : ∃ (a : Option Addr) (xs : List Int) (cap : Nat), c = .slice a xs.length cap ∧ Rd W a xs ∧ ∀ k, k < xs.length → (Lit.int .i64 (nth xs k)).wf = true := by
  rcases Go.ChangeShapes.open_ints Try.underlying22 Try.underlying3 (by kernel_rfl) h with ⟨hcs, _⟩ | ⟨x, len, cap, zs, hcs, _, hl, hm, hz, _, hcell, hwf⟩
  · simp only [List.cons.injEq, and_true] at hcs
    exact ⟨none, [], 0, hcs, ⟨by simp, fun k hk => by simp at hk⟩, fun k hk => by simp at hk⟩
  · simp only [List.cons.injEq, and_true] at hcs
    simp only [if_true] at hz
    have hlen : (zs.take len).length = len := by rw [List.length_take]; omega
    have hn : ∀ k, k < len → nth (zs.take len) k = zs.getD k 0 := by
      intro k hk
      simp only [nth, List.getD_eq_getElem?_getD, List.getElem?_take, hk, if_true]
    refine ⟨some x, zs.take len, cap, by rw [hlen]; exact hcs, ⟨by rw [hlen]; unfold maxLen at hm; omega, fun k hk => ?_⟩, fun k hk => ?_⟩
    · rw [hlen] at hk
      obtain ⟨b, off, sp⟩ := x
      have h0 := hcell 0 (by omega)
      have hsp : sp = none := by simpa [Addr.add] using World.cell?_spot h0
      subst hsp
      have hk' := hcell k (by omega)
      rw [Addr.add_lit] at hk'
      exact ⟨b, off, rfl, World.block_lt_of_cell? _ _ h0, by rw [hk', hn k hk]⟩
    · rw [hlen] at hk
      rw [hn k hk]
      have hk2 : k < zs.length := by omega
      exact hwf _ (by rw [List.getD_eq_getElem?_getD, List.getElem?_eq_getElem hk2]; exact List.getElem_mem hk2)

theorem own : ownKnob Try.prog.godebug = none := by kernel_rfl
theorem laidOut : laidOutB Try.prog = true := by kernel_rfl
theorem wf_bd {n : Int} (h : (Lit.int .i64 n).wf = true) : -9223372036854775808 ≤ n ∧ n ≤ 9223372036854775807 := by
  simp [Lit.wf, IntKind.min, IntKind.max, IntKind.bits, IntKind.signed] at h
  omega

open Go.ChangeShapes Go.WideShapes Go.ChangeAt Go.RowKit in
set_option maxRecDepth 100000 in
theorem lifted (os : Os) (started : os.Started) (H : Type) (enc : TypeId × Value → H) :
    ReturnsInHanded {} Try.checked os 12 .any (Rows.fnExactLevelsWithSpec.pre6 enc Try.prog Try.f12 Rows.fnExactLevelsWithRow.domain false) (Rows.fnExactLevelsWithSpec.post enc Try.prog Try.f12 false true false false) := by
  refine returnsInHanded_of_change (C := Try.checked) own started (by kernel_rfl) Try.func12
    (ChangeSpec.witness6 (enc := enc) (C := Try.checked) false ⟨#[], #[.int .i64 0, .int .i64 0], []⟩ 8 (by kernel_rfl) (by kernel_rfl) (by kernel_rfl) (by kernel_rfl)) ?_
  intro W base args ds gs before hval0 hW hcnd _
  have hval : ∀ (j : Nat) t v, Try.f12.params[j]? = some t → args[j]? = some v → Value.okWide Try.prog W .any base t v := hval0
  have hW' := hW
  obtain ⟨p, q, hA0, hV, rfl, hfz, hnd⟩ := hW
  have hA : DataW.TrodAll enc Try.prog W 0 (fun _ => true) true Try.f12.params.toList args.toList ds p := hA0
  rw [Try.params12] at hA hval
  obtain ⟨v0, vs0, d0, ds0, p0, q0, hargs, rfl, rfl, h0, r0⟩ := trodAll_cons hA
  obtain ⟨v1, vs1, d1, ds1, p1, q1, rfl, rfl, rfl, h1, r1⟩ := trodAll_cons r0
  obtain ⟨rfl, rfl, rfl⟩ := trodAll_nil r1
  obtain rfl : args = #[v0, v1] := by cases args; simp_all
  obtain ⟨rfl, rfl⟩ := trodVars_none hV
  have lt0 : ∀ x ∈ p0, x.block < W.heap.size := by obtain ⟨m, hm⟩ := h0; exact DataW.trod_lt m _ _ _ hm
  have lt1 : ∀ x ∈ p1, x.block < W.heap.size := by obtain ⟨m, hm⟩ := h1; exact DataW.trod_lt m _ _ _ hm
  obtain ⟨i0, rfl, hd0, hp0, wf0⟩ := open_int Try.underlying3 (hval 0 3 v0 rfl rfl) h0
  obtain ⟨i1, rfl, hd1, hp1, wf1⟩ := open_int Try.underlying3 (hval 1 3 v1 rfl rfl) h1
  clear hA0 hval0
  refine (walk i0 i1 W (wf_bd wf0) (wf_bd wf1)).mono fun e W' ⟨he, bel⟩ => ?_
  subst he
  exact ⟨_, rfl, _, _, _, [], _, [], hW', trodAll_mk1 (shut_bool Try.underlying4 _), (trodAll_cons_mk (Below.trod laidOut (by kernel_rfl) (of_decide_eq_true (by kernel_rfl)) h0 bel lt0) (trodAll_cons_mk (Below.trod laidOut (by kernel_rfl) (of_decide_eq_true (by kernel_rfl)) h1 bel lt1) trodAll_mk0)), rfl, bel.frame _, fun h => by cases h⟩
theorem proved : Rows.FnExactLevelsWithSaid :=
  OpenClaim.holds_of_wide 12 Try.f12 rfl rfl rfl rfl rfl rfl rfl ⟨rfl, rfl, rfl, rfl, rfl⟩ rfl rfl rfl rfl rfl (by kernel_rfl) Try.func12 (by kernel_rfl)
    (of_decide_eq_true (by kernel_rfl)) (by unfold Func.isWrapper; first | (rw [if_pos (by decide +kernel)]; kernel_rfl) | (rw [if_neg (by decide +kernel)]; exact ⟨rfl, rfl⟩))
    (fun os started H enc _ => lifted os started H enc)

end Go.Proofs.Ytgejcmlpccgjcaa.levelsWith
