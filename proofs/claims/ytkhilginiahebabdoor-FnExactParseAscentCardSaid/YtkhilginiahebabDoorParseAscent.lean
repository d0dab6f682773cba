/- PROVED: the law FnExactParseAscent returns true for every input, and each of its arguments reads afterwards as before. No conditions. -/
import Derived.Test.YtkhilginiahebabDoorRows
import Derived.WalkKit
import Derived.WalkSpells
import Derived.WalkLawsBesides
import Derived.Deep.QuietTactic
import Derived.BigQuiet
import Derived.ProofKit
import Derived.OpenShut
import Derived.ShutString
import Derived.ChangeOld
import Derived.Below
import Derived.Lib.SmallJoins
import Derived.Lib.Hide
import Derived.Lib.Atoi
import Derived.Lib.ItoaNum
import Derived.Maps.AppendAt
import Derived.Deep.AppendLies
import Derived.Lib.LaidTab
import Derived.Lib.AppendIntMem
import Derived.Lib.AtoiAll
import Derived.Shelf.Strings.Builder1
import Derived.Shelf.Strings.Builder2
import Derived.Shelf.Strings.OnBuilder
import Derived.Shelf.Strings.BuilderF
import Derived.Shelf.Strings.BuilderK
import Derived.Shelf.Strings.Builder2Cap
import Derived.Shelf.Strconv.Atoi
import Derived.Shelf.Strconv.Itoa0
import Derived.Shelf.Strconv.Itoa1
import Derived.Shelf.LaysM
import Derived.Shelf.Strconv.Itoa2
import Derived.Shelf.Strconv.Itoa3
import Derived.Shelf.Strconv.AtoiErrFast
import Derived.Shelf.Strconv.ParseIntEmpty
import Derived.Shelf.Strconv.AtoiFail
import Derived.Shelf.Strconv.Clone
import Derived.Shelf.Strconv.SyntaxError
import Derived.Shelf.LaysC
import Derived.Shelf.Strconv.ToError
import Derived.Shelf.Strconv.Lower
import Derived.Shelf.Strconv.ParseUint10
import Derived.Shelf.Strconv.ParseUint10Empty
import Derived.Shelf.Strconv.ParseUint10Any
import Derived.Shelf.Strconv.ParseInt10
import Derived.Shelf.Strconv.AtoiLong
import Derived.Shelf.Strconv.AtoiInnerAll
import Derived.Shelf.Strconv.RangeError
import Derived.Shelf.Strconv.ToErrorRange
import Derived.Shelf.Strconv.AtoiAll
import Derived.Shelf.Strconv.ErrVarAll
import Derived.Shelf.Strconv.ParseUintEmpty
import Derived.Shelf.Strconv.ParseUint10b64
import Derived.Shelf.Strconv.ParseUint10b32
import Derived.Shelf.Strconv.ParseUint10b16
import Derived.Shelf.Strconv.ParseUint10b8
import Derived.Shelf.Strings.Search1
import Derived.Shelf.Strings.Search2
import Derived.Shelf.Strings.Cut
import Derived.Shelf.Strings.Shaped
import Derived.Lib.IndexLaws
import Derived.ScopeJumps
import Derived.WalkMore
import Derived.Lib.AtoiAllCases
import Derived.Deep.RegionHeld3
import Derived.LaidMore
import Derived.LaidLaws
import Derived.Stop.Joined
import Derived.Stop.LaidErr
import Derived.Test.YtkhilginiahebabDoorTie
import Derived.Test.YtkhilginiahebabDoorCards
import Derived.SevenTiedAt
namespace Go.Proofs.YtkhilginiahebabDoor.parseAscent
open Go Go.RowKit
set_option linter.unusedVariables false
set_option linter.unusedSimpArgs false
set_option maxHeartbeats 400000
open Go.Shelf


/-- a number of a list; a plain function, which the walk leaves alone -/
def nth (xs : List Int) (k : Nat) : Int := xs.getD k 0
theorem nth_get (xs : List Int) (k : Nat) (h : k < xs.length) : nth xs k = xs[k] := by simp [nth, h]
/-- the slice at an address reads as a list -/
structure Rd (w : World) (a : Option Addr) (xs : List Int) : Prop where
  len : xs.length ≤ 9223372036854775807
  cell : ∀ k, k < xs.length → ∃ b off, a = some ⟨b, off, none⟩ ∧ b < w.heap.size ∧ w.cell? ⟨b, off + k, none⟩ = some (.int .i64 (nth xs k))
theorem Rd.below {w w' : World} {a : Option Addr} {xs : List Int} (h : Rd w a xs) (hb : Below w.heap.size w w') : Rd w' a xs :=
  ⟨h.len, fun k hk => by
    obtain ⟨b, off, e, hl, hc⟩ := h.cell k hk
    exact ⟨b, off, e, Nat.lt_of_lt_of_le hl hb.size, (hb.cell (World.block_lt_of_cell? _ _ hc)).trans hc⟩⟩
theorem Rd.mid {w w1 w2 : World} {a : Option Addr} {xs : List Int} {B : Nat} (h : Rd w a xs) (hb : Below B w1 w2) (hB : w.heap.size ≤ B) (h1 : Rd w1 a xs) : Rd w2 a xs :=
  ⟨h.len, fun k hk => by
    obtain ⟨b, off, e, hl, hc⟩ := h.cell k hk
    obtain ⟨b', off', e', hl', hc'⟩ := h1.cell k hk
    rw [e] at e'
    simp only [Option.some.injEq, Addr.mk.injEq, and_true] at e'
    obtain ⟨rfl, rfl⟩ := e'
    exact ⟨b, off, e, Nat.lt_of_lt_of_le hl' hb.size, (hb.cell (by show b < B; omega)).trans hc'⟩⟩
theorem Rd.alloc {w : World} {a : Option Addr} {xs : List Int} (h : Rd w a xs) (o : Obj) : Rd (w.alloc o) a xs :=
  h.below ((Below.refl _ _).alloc (Nat.le_refl _) o)
theorem Rd.same {w w' : World} {a : Option Addr} {xs : List Int} (h : Rd w a xs) (hs : w.heap.size ≤ w'.heap.size)
    (hb : ∀ b off, a = some ⟨b, off, none⟩ → w'.heap[b]? = w.heap[b]?) : Rd w' a xs :=
  ⟨h.len, fun k hk => by
    obtain ⟨b, off, e, hl, hc⟩ := h.cell k hk
    exact ⟨b, off, e, Nat.lt_of_lt_of_le hl hs, (World.cell?_of_block (w := w) (a := ⟨b, off + k, none⟩) (hb b off e)).trans hc⟩⟩
/-- a slice value that owns the row of these integers, in a block from B on -/
def OwnI (w : World) (B : Nat) (v : Value) (xs : List Int) : Prop := w.ownsRow B 3 1 v xs.length (xs.map (Value.int .i64))
theorem OwnI.form {w : World} {B : Nat} {v : Value} {xs : List Int} (h : OwnI w B v xs) : ∃ a cap, v = .slice a xs.length cap := by
  rcases h.2 with ⟨rfl, h0⟩ | ⟨g, cap, cur, rfl, _⟩
  · exact ⟨none, 0, by rw [h0]⟩
  · exact ⟨_, _, rfl⟩
theorem OwnI.rd {w : World} {B n cap : Nat} {a : Option Addr} {xs : List Int} (h : OwnI w B (.slice a n cap) xs) : Rd w a xs := by
  rcases h.2 with ⟨e, h0⟩ | ⟨g, cap', cur, e, hb, hg, hn, hm, hs, ht⟩
  · exact ⟨by omega, fun k hk => by omega⟩
  · simp only [Value.slice.injEq] at e
    obtain ⟨rfl, rfl, rfl⟩ := e
    refine ⟨by unfold maxLen at hm; omega, fun k hk => ⟨g, 0, rfl, (Array.getElem?_eq_some_iff.1 hg).1, ?_⟩⟩
    have := World.ownsRow.cellAt h k (by omega)
    rw [Nat.zero_add, this]
    simp [nth, hk]
theorem OwnI.blk {w : World} {B n cap : Nat} {a : Option Addr} {xs : List Int} (h : OwnI w B (.slice a n cap) xs) : ∀ b off s, a = some ⟨b, off, s⟩ → B ≤ b ∧ b < w.heap.size := by
  intro b off s e
  subst e
  exact World.ownsRow.lt h b rfl
theorem OwnI.kept {w w' : World} {B : Nat} {v : Value} {xs : List Int} {row : Option Nat} (h : OwnI w B v xs) (hg : w.grownBy w' row) (hne : v.ownBlock = none ∨ v.ownBlock ≠ row) : OwnI w' B v xs := World.ownsRow.kept h hg hne
theorem OwnI.mono {w : World} {B B' : Nat} {v : Value} {xs : List Int} (h : OwnI w B v xs) (hB : B' ≤ B) : OwnI w B' v xs := by
  refine ⟨h.1, ?_⟩
  rcases h.2 with hn | ⟨g, cap, cur, e, hb, rest⟩
  · exact .inl hn
  · exact .inr ⟨g, cap, cur, e, by omega, rest⟩
theorem OwnI.below {w w' : World} {B B' : Nat} {v : Value} {xs : List Int} (h : OwnI w B v xs) (hb : Below B' w w') (hB : w.heap.size ≤ B') : OwnI w' B v xs := by
  refine ⟨h.1, ?_⟩
  rcases h.2 with hn | ⟨g, cap, cur, e, hb', hg, rest⟩
  · exact .inl hn
  · refine .inr ⟨g, cap, cur, e, hb', ?_, rest⟩
    rw [hb.block g (by have := (Array.getElem?_eq_some_iff.1 hg).1; omega)]
    exact hg
theorem ret_bool {a b : Bool} (h : a = b) : Ending.returned (.bool a) = .returned (.bool b) := by rw [h]
theorem ret_int {a b : Int} (h : a = b) : Ending.returned (.int .i64 a) = .returned (.int .i64 b) := by rw [h]
theorem val_int {a b : Int} (h : a = b) : Value.int .i64 a = .int .i64 b := by rw [h]
theorem grown_below {w w' : World} {g : Nat} (h : w.grownBy w' (some g)) (B : Nat) (hB : B ≤ g) (hs : B ≤ w.heap.size) : Below B w w' :=
  ⟨h.os, h.tape, h.output, h.size, fun k hk => h.block k (by omega) (by intro e; simp only [Option.some.injEq] at e; omega)⟩
theorem below_grown {w w' : World} {B : Nat} (h : Below B w w') (hB : w.heap.size ≤ B) (row : Option Nat) : w.grownBy w' row :=
  ⟨h.os, h.tape, h.output, h.size, fun k hk _ => h.block k (by omega)⟩
theorem bcell {W w1 : World} (hb : Below W.heap.size W w1) : (∀ b o, b < W.heap.size → w1.cell? ⟨b, o, none⟩ = W.cell? ⟨b, o, none⟩) ∧ (∀ b o, b < W.heap.size → w1.frozen? ⟨b, o, none⟩ = W.frozen? ⟨b, o, none⟩) :=
  ⟨fun b o h => hb.cell (p := ⟨b, o, none⟩) h, fun b o h => hb.frozen (p := ⟨b, o, none⟩) h⟩
theorem infoInt : (Tryd.prog.info? 3).map (fun i => (i.zero, i.size, i.bytes)) = some (some (.int .i64 0), 1, 8) := by kernel_rfl
theorem OwnI.setBelow {w : World} {B : Nat} {v : Value} {xs : List Int} (h : OwnI w B v xs) {p : Addr} (hp : p.block < B) (u : Value) : OwnI (w.setCell p u) B v xs := ownsRow_setCell_below h hp u
theorem OwnI.alloc {w : World} {B : Nat} {v : Value} {xs : List Int} (h : OwnI w B v xs) (o : Obj) : OwnI (w.alloc o) B v xs := h.below ((Below.refl _ _).alloc (Nat.le_refl _) o) (Nat.le_refl _)
theorem Below.mono' {B B' : Nat} {w w' : World} (h : Below B w w') (hB : B' ≤ B) : Below B' w w' := h.mono hB
/-- a block that holds two cells -/
def Box2 (w : World) (b : Nat) (u v : Value) : Prop := b < w.heap.size ∧ w.cell? ⟨b, 0, none⟩ = some u ∧ w.cell? ⟨b, 1, none⟩ = some v
theorem Box2.below {w w' : World} {b : Nat} {u v : Value} (h : Box2 w b u v) (hb : Below w.heap.size w w') : Box2 w' b u v :=
  ⟨Nat.lt_of_lt_of_le h.1 hb.size, (hb.cell (p := ⟨b, 0, none⟩) h.1).trans h.2.1, (hb.cell (p := ⟨b, 1, none⟩) h.1).trans h.2.2⟩
theorem Box2.new (w : World) (u v : Value) (t : TypeId) : Box2 (w.alloc (.cells #[u, v] t)) w.heap.size u v :=
  ⟨by simp, by simp, by simp⟩
theorem Box2.kept {w w' : World} {b : Nat} {u v : Value} {row : Option Nat} (h : Box2 w b u v) (hg : w.grownBy w' row) (hne : some b ≠ row) : Box2 w' b u v :=
  ⟨Nat.lt_of_lt_of_le h.1 hg.size, hg.cell h.2.1 hne, hg.cell h.2.2 hne⟩
theorem OwnI.lt {w : World} {B : Nat} {v : Value} {xs : List Int} (h : OwnI w B v xs) : ∀ b, v.ownBlock = some b → B ≤ b ∧ b < w.heap.size := World.ownsRow.lt h
theorem OwnI.cut {w : World} {B : Nat} {v : Value} {xs : List Int} (h : OwnI w B v xs) {U : Nat} (hU : w.heap.size ≤ U) : ∀ b, v.ownBlock = some b → B ≤ b ∧ b < U := fun b e => ⟨(h.lt b e).1, Nat.lt_of_lt_of_le (h.lt b e).2 hU⟩
/-- a block of two cells that may be written -/
def Var2 (w : World) (b : Nat) (u v : Value) : Prop := Box2 w b u v ∧ w.frozen? ⟨b, 0, none⟩ = false ∧ w.frozen? ⟨b, 1, none⟩ = false
theorem Var2.below {w w' : World} {b : Nat} {u v : Value} (h : Var2 w b u v) (hb : Below w.heap.size w w') : Var2 w' b u v :=
  ⟨h.1.below hb, (hb.frozen (p := ⟨b, 0, none⟩) h.1.1).trans h.2.1, (hb.frozen (p := ⟨b, 1, none⟩) h.1.1).trans h.2.2⟩
theorem Var2.new (w : World) (u v : Value) (t : TypeId) : Var2 (w.alloc (.cells #[u, v] t)) w.heap.size u v :=
  ⟨Box2.new w u v t, by simp, by simp⟩
theorem Var2.alloc {w : World} {b : Nat} {u v : Value} (h : Var2 w b u v) (o : Obj) : Var2 (w.alloc o) b u v := h.below ((Below.refl _ _).alloc (Nat.le_refl _) o)
theorem Var2.kept {w w' : World} {b : Nat} {u v : Value} {row : Option Nat} (h : Var2 w b u v) (hg : w.grownBy w' row) (hne : some b ≠ row) : Var2 w' b u v :=
  ⟨h.1.kept hg hne, (World.frozen?_of_block (w := w) (a := ⟨b, 0, none⟩) (hg.block b h.1.1 hne)).trans h.2.1, (World.frozen?_of_block (w := w) (a := ⟨b, 1, none⟩) (hg.block b h.1.1 hne)).trans h.2.2⟩
theorem Var2.set {w : World} {b : Nat} {u v : Value} (h : Var2 w b u v) (u' v' : Value) : Var2 ((w.setCell ⟨b, 0, none⟩ u').setCell ⟨b, 1, none⟩ v') b u' v' := by
  refine ⟨⟨by simpa using h.1.1, ?_, ?_⟩, by simpa using h.2.1, by simpa using h.2.2⟩
  · rw [World.cell?_setCell_other _ _ _ _ (by simp), World.cell?_setCell_same _ _ _ h.1.2.1]
  · rw [World.cell?_setCell_same _ _ _ (u := v) (by rw [World.cell?_setCell_other _ _ _ _ (by simp)]; exact h.1.2.2)]
theorem grown_set (w : World) (p : Addr) (u : Value) : w.grownBy (w.setCell p u) (some p.block) :=
  ⟨rfl, rfl, rfl, by simp, fun k hk hn => Below.heap_setCell w p u k (fun e => hn (by rw [e]))⟩
theorem Var2.set1 {w : World} {b : Nat} {u v : Value} (h : Var2 w b u v) (v' : Value) : Var2 (w.setCell ⟨b, 1, none⟩ v') b u v' := by
  refine ⟨⟨by simpa using h.1.1, ?_, ?_⟩, by simpa using h.2.1, by simpa using h.2.2⟩
  · rw [World.cell?_setCell_other _ _ _ _ (by simp)]; exact h.1.2.1
  · rw [World.cell?_setCell_same _ _ _ h.1.2.2]
theorem Box2.set {w : World} {b : Nat} {u v : Value} (h : Box2 w b u v) {p : Addr} (x : Value) (hne : b ≠ p.block) : Box2 (w.setCell p x) b u v :=
  h.kept (grown_set w p x) (by simpa using hne)
theorem Var2.other {w : World} {b : Nat} {u v : Value} (h : Var2 w b u v) {p : Addr} (x : Value) (hne : b ≠ p.block) : Var2 (w.setCell p x) b u v :=
  h.kept (grown_set w p x) (by simpa using hne)
theorem ne_own {v : Value} {b : Nat} (h : ∀ c, v.ownBlock = some c → c ≠ b) : some b ≠ v.ownBlock := fun e => h b e.symm rfl
theorem grown_alloc_set {w w1 : World} {r : Option Nat} {o : Obj} (h : (w.alloc o).grownBy w1 r) : w.grownBy w1 r :=
  ⟨h.os, h.tape, h.output, by have := h.size; simp at this; omega, fun k hk hn => (h.block k (by simp; omega) hn).trans (Below.heap_alloc w o k hk)⟩
theorem grown_trans {w w1 w2 : World} {r : Option Nat} (h1 : w.grownBy w1 r) (h2 : w1.grownBy w2 r) : w.grownBy w2 r :=
  ⟨h2.os.trans h1.os, h2.tape.trans h1.tape, h2.output.trans h1.output, Nat.le_trans h1.size h2.size, fun k hk hn => (h2.block k (by have := h1.size; omega) hn).trans (h1.block k hk hn)⟩
theorem OwnI.nil (w : World) (B : Nat) : OwnI w B (.slice none 0 0) [] := World.ownsRow_nil _ _ _ _
theorem below_of_grown {w w' : World} {v : Value} {B : Nat} (hg : w.grownBy w' v.ownBlock) (hB : ∀ b, v.ownBlock = some b → B ≤ b) (hs : B ≤ w.heap.size) : Below B w w' :=
  ⟨hg.os, hg.tape, hg.output, hg.size, fun k hk => hg.block k (by omega) (fun e => by have := hB k e.symm; omega)⟩

/-- a text parted at each comma -/
def spl : List UInt8 → List (List UInt8)
  | [] => [[]]
  | c :: r => if c = 44 then [] :: spl r else (match spl r with | [] => [[c]] | x :: xs => (c :: x) :: xs)
theorem spl_ne : ∀ l, spl l ≠ []
  | [] => by simp [spl]
  | c :: r => by
    rw [spl]
    split
    · simp
    · cases spl r <;> simp
theorem spl_comma (r : List UInt8) : spl (44 :: r) = [] :: spl r := by rw [spl, if_pos rfl]
theorem spl_other {c : UInt8} (h : c ≠ 44) (r : List UInt8) {x : List UInt8} {xs : List (List UInt8)} (e : spl r = x :: xs) : spl (c :: r) = (c :: x) :: xs := by rw [spl, if_neg h, e]
/-- no comma in it -/
theorem spl_none : ∀ {l : List UInt8}, 44 ∉ l → spl l = [l]
  | [], _ => rfl
  | c :: r, h => by
    have h1 : c ≠ 44 := fun e => h (by simp [e])
    have h2 : 44 ∉ r := fun e => h (by simp [e])
    exact spl_other h1 r (spl_none h2)
/-- the first comma parts it -/
theorem spl_cut : ∀ {a : List UInt8} (b : List UInt8), 44 ∉ a → spl (a ++ 44 :: b) = a :: spl b
  | [], b, _ => spl_comma b
  | c :: r, b, h => by
    have h1 : c ≠ 44 := fun e => h (by simp [e])
    have h2 : 44 ∉ r := fun e => h (by simp [e])
    exact spl_other h1 _ (spl_cut b h2)
theorem spl_snoc_comma : ∀ l : List UInt8, spl (l ++ [44]) = spl l ++ [[]]
  | [] => rfl
  | c :: r => by
    by_cases h : c = 44
    · subst h
      rw [List.cons_append, spl_comma, spl_comma, spl_snoc_comma r]; rfl
    · obtain ⟨x, xs, e⟩ := List.exists_cons_of_ne_nil (spl_ne r)
      have ih := spl_snoc_comma r
      rw [e, List.cons_append] at ih
      rw [List.cons_append, spl_other h _ ih, spl_other h _ e]; rfl
theorem spl_snoc_other {c : UInt8} (hc : c ≠ 44) : ∀ {l : List UInt8} {ds : List (List UInt8)} {t : List UInt8}, spl l = ds ++ [t] → spl (l ++ [c]) = ds ++ [t ++ [c]]
  | [], ds, t, h => by
    have h1 : [[]] = ds ++ [t] := h
    cases ds with
    | nil => simp at h1; subst h1; simp [spl, hc]
    | cons d ds => simp at h1
  | b :: r, ds, t, h => by
    by_cases hb : b = 44
    · subst hb
      rw [spl_comma] at h
      rw [List.cons_append, spl_comma]
      cases ds with
      | nil => 
        have : spl r = [] := by simp at h; exact h.2
        exact absurd this (spl_ne r)
      | cons d ds =>
        simp only [List.cons_append, List.cons.injEq] at h
        rw [spl_snoc_other hc h.2, ← h.1]; rfl
    · obtain ⟨x, xs, e⟩ := List.exists_cons_of_ne_nil (spl_ne r)
      rw [spl_other hb _ e] at h
      cases ds with
      | nil =>
        simp only [List.nil_append, List.cons.injEq] at h
        have e2 : spl r = [] ++ [x] := by rw [e, h.2]; rfl
        have := spl_snoc_other hc e2
        rw [List.cons_append, spl_other hb _ this, ← h.1]; rfl
      | cons d ds =>
        simp only [List.cons_append, List.cons.injEq] at h
        have e2 : spl r = (x :: ds) ++ [t] := by rw [e, h.2]; rfl
        have := spl_snoc_other hc e2
        rw [List.cons_append] at this
        rw [List.cons_append, spl_other hb _ this, ← h.1]; rfl
theorem spl_count (l : List UInt8) : (spl l).length ≤ l.length + 1 := by
  induction l with
  | nil => simp [spl]
  | cons c r ih =>
    by_cases h : c = 44
    · subst h; rw [spl_comma]; simp; exact ih
    · obtain ⟨x, xs, e⟩ := List.exists_cons_of_ne_nil (spl_ne r)
      rw [spl_other h _ e]
      rw [e] at ih
      simp at ih ⊢
      omega

def inB (n lo hi : Int) : Bool := decide (lo ≤ n) && decide (n ≤ hi)
theorem inB_iff {n lo hi : Int} : inB n lo hi = true ↔ lo ≤ n ∧ n ≤ hi := by simp [inB]
theorem inB_no {n lo hi : Int} : inB n lo hi = false ↔ n < lo ∨ hi < n := by
  rw [← Bool.not_eq_true, inB_iff]
  omega

/-- the number below a million that a text spells, or -1 -/
def rdW (l : List UInt8) : Int :=
  if inB (l.length : Int) 1 6 then (if l.head? = some 48 ∧ 1 < l.length then -1 else (match Lib.decFrom 0 l with | some v => (v : Int) | none => -1)) else -1
theorem decFrom_lt : ∀ {l : List UInt8} {acc n : Nat}, Lib.decFrom acc l = some n → n < (acc + 1) * 10 ^ l.length
  | [], acc, n, h => by simp [Lib.decFrom] at h; subst h; simp
  | b :: r, acc, n, h => by
    simp only [Lib.decFrom] at h
    cases hd : Lib.digitVal b with
    | none => simp [hd] at h
    | some d =>
      simp only [hd] at h
      have h1 := decFrom_lt h
      have h2 : d ≤ 9 := by
        unfold Lib.digitVal at hd
        split at hd
        · simp at hd; omega
        · cases hd
      have h3 : acc * 10 + d + 1 ≤ (acc + 1) * 10 := by omega
      have h4 := Nat.mul_le_mul h3 (Nat.le_refl (10 ^ r.length))
      rw [List.length_cons, Nat.pow_succ]
      rw [Nat.mul_assoc, Nat.mul_comm 10] at h4
      omega

theorem OwnI.capLe {w : World} {B n cap : Nat} {a : Option Addr} {xs : List Int} (h : OwnI w B (.slice a n cap) xs) : n ≤ cap := by
  rcases h.2 with ⟨e, _⟩ | ⟨g, cap', cur, e, _, _, hc, _⟩
  · simp only [Value.slice.injEq] at e
    omega
  · simp only [Value.slice.injEq] at e
    omega
theorem Rd.take {w : World} {a : Option Addr} {xs : List Int} (h : Rd w a xs) (k : Nat) : Rd w a (xs.take k) :=
  ⟨Nat.le_trans (by rw [List.length_take]; exact Nat.min_le_right _ _) h.len, fun j hj => by
    have hj' : j < xs.length ∧ j < k := by rw [List.length_take] at hj; omega
    obtain ⟨b, off, e, hl, hc⟩ := h.cell j hj'.1
    refine ⟨b, off, e, hl, hc.trans ?_⟩
    simp [nth, List.getD_eq_getElem?_getD, List.getElem?_take, hj'.2]⟩

theorem wrap64_small (n : Int) (h0 : -9223372036854775808 ≤ n) (h1 : n ≤ 9223372036854775807) : IntKind.i64.wrap n = n := by
  simp only [IntKind.wrap, IntKind.bits, IntKind.signed]
  simp
  omega
theorem i64_wrap (n : Int) : IntKind.i64.wrap n = wrap64 n := IntWalk.i64_left n
theorem ofInt_i64 (a : Nat) (ha : a < 9223372036854775808) : (BitVec.ofInt 64 (a : Int)).toNat = a := by
  simp
  omega
theorem and_nat (a b : Nat) (ha : a < 9223372036854775808) (hb : b < 9223372036854775808) : bits .and .i64 (a : Int) (b : Int) = ((a &&& b : Nat) : Int) := by
  have hx : a &&& b < 2 ^ 63 := Nat.and_lt_two_pow _ (by omega)
  show IntKind.i64.wrap ((BitVec.ofInt 64 (a : Int) &&& BitVec.ofInt 64 (b : Int)).toNat : Int) = _
  rw [BitVec.toNat_and, ofInt_i64 a ha, ofInt_i64 b hb, wrap64_small _ (by omega) (by omega)]
theorem or_nat (a b : Nat) (ha : a < 9223372036854775808) (hb : b < 9223372036854775808) : bits .or .i64 (a : Int) (b : Int) = ((a ||| b : Nat) : Int) := by
  have hx : a ||| b < 2 ^ 63 := Nat.or_lt_two_pow (by omega) (by omega)
  show IntKind.i64.wrap ((BitVec.ofInt 64 (a : Int) ||| BitVec.ofInt 64 (b : Int)).toNat : Int) = _
  rw [BitVec.toNat_or, ofInt_i64 a ha, ofInt_i64 b hb, wrap64_small _ (by omega) (by omega)]
/-- a set without the elements of another one -/
def sub (a b : Nat) : Nat := a ^^^ (a &&& b)
theorem testBit_sub (a b i : Nat) : (sub a b).testBit i = (a.testBit i && !b.testBit i) := by
  simp [sub, Nat.testBit_xor, Nat.testBit_and]
  cases a.testBit i <;> cases b.testBit i <;> rfl
theorem sub_lt {a b n : Nat} (h : a < 2 ^ n) : sub a b < 2 ^ n := by
  unfold sub
  exact Nat.xor_lt_two_pow h (by rw [Nat.and_comm]; exact Nat.and_lt_two_pow _ h)
theorem sub_nat (a b : Nat) (ha : a < 9223372036854775808) (hb : b < 9223372036854775808) : bits .andNot .i64 (a : Int) (b : Int) = ((sub a b : Nat) : Int) := by
  have hs : sub a b < 2 ^ 63 := sub_lt (by omega)
  show IntKind.i64.wrap ((BitVec.ofInt 64 (a : Int) &&& ~~~BitVec.ofInt 64 (b : Int)).toNat : Int) = _
  have e : (BitVec.ofInt 64 (a : Int) &&& ~~~BitVec.ofInt 64 (b : Int)).toNat = sub a b := by
    apply Nat.eq_of_testBit_eq
    intro i
    rw [BitVec.testBit_toNat, BitVec.getLsbD_and, BitVec.getLsbD_not, testBit_sub, ← BitVec.testBit_toNat, ← BitVec.testBit_toNat, ofInt_i64 a ha, ofInt_i64 b hb]
    by_cases hi : i < 64
    · simp [hi]
    · have : a.testBit i = false := Nat.testBit_lt_two_pow (Nat.lt_of_lt_of_le (by omega : a < 2 ^ 64) (Nat.pow_le_pow_right (by omega) (by omega)))
      simp [this]
  rw [e, wrap64_small _ (by omega) (by omega)]
theorem shr_nat (s i : Nat) (hs : s < 9223372036854775808) : (s : Int) / (2 ^ min i 64) = ((s >>> i : Nat) : Int) := by
  rw [Nat.shiftRight_eq_div_pow]
  by_cases h : i ≤ 64
  · rw [Nat.min_eq_left h]
    simp
  · rw [Nat.min_eq_right (by omega)]
    have : 2 ^ 64 ≤ 2 ^ i := Nat.pow_le_pow_right (by omega) (by omega)
    rw [Nat.div_eq_of_lt (by omega)]
    omega
theorem bit_and (s i : Nat) (hs : s < 9223372036854775808) : (bits .and .i64 ((s >>> i : Nat) : Int) 1 == 1) = s.testBit i := by
  have h1 : s >>> i ≤ s := by rw [Nat.shiftRight_eq_div_pow]; exact Nat.div_le_self _ _
  have := and_nat (s >>> i) 1 (by omega) (by omega)
  rw [show ((1 : Nat) : Int) = 1 from rfl] at this
  rw [this, Nat.testBit, Nat.and_one_is_mod, Nat.and_comm, Nat.and_one_is_mod]
  rcases Nat.mod_two_eq_zero_or_one (s >>> i) with h | h <;> simp [h]
theorem bit_mod (s i : Nat) : (((s >>> i : Nat) : Int) % 2 == 1) = s.testBit i := by
  rw [Nat.testBit, Nat.and_comm, Nat.and_one_is_mod]
  rcases Nat.mod_two_eq_zero_or_one (s >>> i) with h | h
  · have h2 : ((s >>> i : Nat) : Int) % 2 = 0 := by omega
    rw [h2, h]; rfl
  · have h2 : ((s >>> i : Nat) : Int) % 2 = 1 := by omega
    rw [h2, h]; rfl
theorem bit_tmod (s i : Nat) : (((s >>> i : Nat) : Int).tmod 2 == 1) = s.testBit i := by
  rw [Int.tmod_eq_emod_of_nonneg (Int.natCast_nonneg _), bit_mod]
/-- is i in the set s? -/
def hasB (s i : Int) : Bool := s.toNat.testBit i.toNat
theorem has_and {s i : Int} (h0 : 0 ≤ s) (h1 : s ≤ 9223372036854775807) (hi : 0 ≤ i) : (bits .and .i64 (s / 2 ^ min i.toNat 64) 1 == 1) = hasB s i := by
  obtain ⟨S, rfl⟩ := Int.eq_ofNat_of_zero_le h0
  rw [shr_nat S _ (by omega), bit_and S _ (by omega)]
  rfl
theorem has_mod {s i : Int} (h0 : 0 ≤ s) (h1 : s ≤ 9223372036854775807) (hi : 0 ≤ i) : ((s / 2 ^ min i.toNat 64).tmod 2 == 1) = hasB s i := by
  obtain ⟨S, rfl⟩ := Int.eq_ofNat_of_zero_le h0
  rw [shr_nat S _ (by omega), bit_tmod S]
  rfl
theorem pow_w {k : Nat} (h : k < 62) : wrap64 (2 ^ k) = ((2 ^ k : Nat) : Int) := by
  have : 2 ^ k ≤ 2 ^ 61 := Nat.pow_le_pow_right (by omega) (by omega)
  rw [show ((2:Int) ^ k) = ((2 ^ k : Nat) : Int) by simp]
  generalize hp : 2 ^ k = p at *
  exact IntWalk.wrap64_in _ ⟨by omega, by omega⟩
theorem or_bit {b k : Nat} (hb : b < 4611686018427387904) (hk : k < 62) : bits .or .i64 (b : Int) (wrap64 (2 ^ k)) = ((b ||| 2 ^ k : Nat) : Int) := by
  rw [pow_w hk]
  have : 2 ^ k ≤ 2 ^ 61 := Nat.pow_le_pow_right (by omega) (by omega)
  exact or_nat _ _ (by omega) (by omega)
theorem or_i {a b : Int} (ha : 0 ≤ a) (ha1 : a < 9223372036854775808) (hb : 0 ≤ b) (hb1 : b < 9223372036854775808) : bits .or .i64 a b = ((a.toNat ||| b.toNat : Nat) : Int) := by
  obtain ⟨A, rfl⟩ := Int.eq_ofNat_of_zero_le ha
  obtain ⟨B, rfl⟩ := Int.eq_ofNat_of_zero_le hb
  exact or_nat A B (by omega) (by omega)
theorem sub_i {a b : Int} (ha : 0 ≤ a) (ha1 : a < 9223372036854775808) (hb : 0 ≤ b) (hb1 : b < 9223372036854775808) : bits .andNot .i64 a b = ((sub a.toNat b.toNat : Nat) : Int) := by
  obtain ⟨A, rfl⟩ := Int.eq_ofNat_of_zero_le ha
  obtain ⟨B, rfl⟩ := Int.eq_ofNat_of_zero_le hb
  exact sub_nat A B (by omega) (by omega)
theorem or_lt {a b n : Nat} (ha : a < 2 ^ n) (hb : b < 2 ^ n) : a ||| b < 2 ^ n := Nat.or_lt_two_pow ha hb
theorem two_lt {k n : Nat} (h : k < n) : 2 ^ k < 2 ^ n := Nat.pow_lt_pow_right (by omega) h
theorem testBit_two (k i : Nat) : (2 ^ k).testBit i = decide (k = i) := Nat.testBit_two_pow

/-- is the number at i behind an ascent? -/
def riseB (xs : List Int) (i : Nat) : Bool := decide (0 < i) && decide (nth xs (i-1) < nth xs i)
theorem riseB_iff {xs : List Int} {i : Nat} : riseB xs i = true ↔ 0 < i ∧ nth xs (i-1) < nth xs i := by simp [riseB]
/-- the ascents among the first k numbers -/
def ascTo (xs : List Int) : Nat → Nat
  | 0 => 0
  | k+1 => ascTo xs k + (if riseB xs k then 1 else 0)
theorem ascTo_le (xs : List Int) : ∀ k, ascTo xs k ≤ k - 1
  | 0 => by simp [ascTo]
  | 1 => by simp [ascTo, riseB]
  | k+2 => by
    have := ascTo_le xs (k+1)
    rw [ascTo]; split <;> omega
theorem ascTo_yes {xs : List Int} {k : Nat} (h : riseB xs k = true) : ascTo xs (k+1) = ascTo xs k + 1 := by simp [ascTo, h]
theorem ascTo_no {xs : List Int} {k : Nat} (h : riseB xs k = false) : ascTo xs (k+1) = ascTo xs k := by simp [ascTo, h]
/-- the greatest number that may stand at k -/
def bndTo (xs : List Int) (k : Nat) : Int := if k = 0 then 0 else (ascTo xs k : Int) + 1
theorem bndTo_zero (xs : List Int) : bndTo xs 0 = 0 := rfl
theorem bndTo_pos (xs : List Int) {k : Nat} (h : 0 < k) : bndTo xs k = (ascTo xs k : Int) + 1 := by simp [bndTo]; omega
theorem bndTo_le (xs : List Int) (k : Nat) : 0 ≤ bndTo xs k ∧ bndTo xs k ≤ (k : Int) := by
  have := ascTo_le xs k
  unfold bndTo
  split <;> omega
def ascOk (xs : List Int) (k : Nat) : Bool := inB (nth xs k) 0 (bndTo xs k)
/-- is it an ascent sequence? -/
def ascB (xs : List Int) : Bool := decide (xs.length ≤ 12) && (List.range xs.length).all (ascOk xs)
theorem ascB_iff {xs : List Int} : ascB xs = true ↔ xs.length ≤ 12 ∧ ∀ k, k < xs.length → ascOk xs k = true := by simp [ascB]
theorem ascB_no {xs : List Int} {k : Nat} (hk : k < xs.length) (h : ascOk xs k = false) : ascB xs = false := by
  rw [← Bool.not_eq_true, ascB_iff]
  rintro ⟨_, h2⟩
  rw [h2 k hk] at h
  cases h
theorem ascB_long {xs : List Int} (h : ¬ xs.length ≤ 12) : ascB xs = false := by
  rw [← Bool.not_eq_true, ascB_iff]
  exact fun h2 => h h2.1
theorem ascB_nth {xs : List Int} (h : ascB xs = true) {k : Nat} (hk : k < xs.length) : 0 ≤ nth xs k ∧ nth xs k ≤ bndTo xs k := inB_iff.1 ((ascB_iff.1 h).2 k hk)
theorem ascB_small {xs : List Int} (h : ascB xs = true) {k : Nat} (hk : k < xs.length) : 0 ≤ nth xs k ∧ nth xs k ≤ 11 := by
  have h1 := ascB_nth h hk
  have h2 := bndTo_le xs k
  have h3 := (ascB_iff.1 h).1
  omega
/-- how far the list has come -/
def clLast (xs : List Int) (k : Nat) : Int := if k = 0 then -1 else nth xs (k-1)
def clAsc (xs : List Int) (k : Nat) : Int := if k = 0 then -1 else (ascTo xs k : Int)
theorem clAsc_bnd (xs : List Int) (k : Nat) : clAsc xs k + 1 = bndTo xs k := by unfold clAsc bndTo; split <;> omega
theorem clLast_succ (xs : List Int) (k : Nat) : clLast xs (k+1) = nth xs k := by simp [clLast]
/-- the climb with one more number -/
def byA (last asc n : Int) : Int := if last < n then asc + 1 else asc
theorem clAsc_succ {xs : List Int} {k : Nat} (h0 : 0 ≤ nth xs k) : byA (clLast xs k) (clAsc xs k) (nth xs k) = clAsc xs (k+1) := by
  by_cases hk : k = 0
  · subst hk
    have : (-1 : Int) < nth xs 0 := by omega
    simp [byA, clLast, clAsc, ascTo, riseB, this]
  · simp only [byA, clLast, clAsc, hk, if_false, ascTo, Nat.succ_ne_zero, riseB]
    by_cases h : nth xs (k-1) < nth xs k
    · simp [h, show 0 < k by omega]
    · simp [h]
theorem clAsc_le (xs : List Int) (k : Nat) : -1 ≤ clAsc xs k ∧ clAsc xs k < max (k : Int) 0 + 1 := by
  have := ascTo_le xs k
  unfold clAsc
  split <;> omega
theorem clAsc_lt (xs : List Int) (k : Nat) : -1 ≤ clAsc xs k ∧ clAsc xs k ≤ (k : Int) := by
  have := ascTo_le xs k
  unfold clAsc
  split <;> omega

theorem infoString : (Tryd.prog.info? 9).map (fun i => (i.zero, i.size, i.bytes)) = some (some (.string ⟨#[]⟩), 1, 16) := by kernel_rfl
def OwnT (w : World) (B : Nat) (v : Value) (n : Nat) (ys : List ByteArray) : Prop := w.ownsRow B 9 1 v n (ys.map Value.string)

theorem OwnT.below {w w' : World} {B B' n : Nat} {v : Value} {ys : List ByteArray} (h : OwnT w B v n ys) (hb : Below B' w w') (hB : w.heap.size ≤ B') : OwnT w' B v n ys := by
  refine ⟨h.1, ?_⟩
  rcases h.2 with hn | ⟨g, cap, cur, e, hb', hg, rest⟩
  · exact .inl hn
  · refine .inr ⟨g, cap, cur, e, hb', ?_, rest⟩
    rw [hb.block g (by have := (Array.getElem?_eq_some_iff.1 hg).1; omega)]
    exact hg
theorem OwnT.nil (w : World) (B : Nat) : OwnT w B (.slice none 0 0) 0 [] := World.ownsRow_nil _ _ _ _
theorem OwnT.lt {w : World} {B n : Nat} {v : Value} {ys : List ByteArray} (h : OwnT w B v n ys) : ∀ b, v.ownBlock = some b → B ≤ b ∧ b < w.heap.size := World.ownsRow.lt h
/-- one text more at the end of a row of texts that is owned -/
theorem pushT_at {ops : Array Oper} {rest : List Oper} {o : Oper} {a : Act} {Q : Exit → Act → World → Prop} (hgd : o.guard = none) (s x : Operand)
    (ho : o.op = .call { callee := .builtin .append, args := #[s, x], argTypes := #[33, 33] }) {wr : World} {B : Nat} {v : Value} {ys : List ByteArray} {z : ByteArray}
    (hs : a.eval s = v) (hown : OwnT wr B v ys.length ys) (hx : a.eval x = .slice (some ⟨wr.heap.size, 0, none⟩) 1 1) (h63 : ys.length ≤ 2097152) (hB : B ≤ wr.heap.size)
    (h : ∀ g c w', OwnT w' B (.slice (some ⟨g, 0, none⟩) (ys.length + 1) c) (ys.length + 1) (ys ++ [z]) → wr.grownBy w' v.ownBlock → (v.ownBlock = some g ∨ g = wr.heap.size + 1) → wpList Tryd.prog ops Q rest (a.put o.dst (.slice (some ⟨g, 0, none⟩) (ys.length + 1) c)) w') :
    wpList Tryd.prog ops Q (o :: rest) a (wr.alloc (.cells #[.string z] 9)) := by
  obtain ⟨i0, hi, hz0, hz1, hz2⟩ := info_parts infoString
  refine wpList_append_own_at _ hgd s x 33 ho B 9 i0 (.string ⟨#[]⟩) 1 16 Tryd.underlying33 hi hz0 hz1 hz2 rfl (by decide) v ys.length (ys.map Value.string) hs (hown.below ((Below.refl _ _).alloc (Nat.le_refl _) _) (Nat.le_refl _)) ⟨wr.heap.size, 0, none⟩ 1 1 [.string z] hx rfl (cell_one_new _ _ _) (by intro u hu; simp at hu; subst hu; rfl) (by unfold maxLen; omega) (by omega) (by simp; omega) ?_
  intro v' w' ho2 hg _ hat
  obtain ⟨g, c, rfl⟩ : ∃ g c, v' = .slice (some ⟨g, 0, none⟩) (ys.length + 1) c := by
    rcases ho2.2 with ⟨_, hn⟩ | ⟨g, c, _, e, _⟩
    · omega
    · exact ⟨g, c, e⟩
  refine h g c w' ?_ (grown_alloc_set hg) ?_
  · unfold OwnT
    rw [List.map_append]
    exact ho2
  · rcases hat with e | e
    · exact .inl (e ▸ rfl)
    · exact .inr (by simpa [Value.ownBlock] using e)

theorem take_snoc (s : ByteArray) (k : Nat) (h : k < s.size) : s.data.toList.take (k + 1) = s.data.toList.take k ++ [s[k]] := by
  rw [List.take_succ_eq_append_getElem (by simpa using h)]; rfl
theorem ext_list (s : ByteArray) (f k : Nat) : (s.extract f k).data.toList = (s.data.toList.take k).drop f := by
  obtain ⟨⟨l⟩⟩ := s
  rw [ByteArray.extract_mk]
  simp [List.drop_take]
def txL (s : ByteArray) : List UInt8 := s.data.toList
theorem txL_len (s : ByteArray) : (txL s).length = s.size := Array.length_toList
set_option maxRecDepth 100000 in
theorem l1Split_any (s : ByteArray) (w : World) (hs : s.size ≤ 1048576) :
    Calls Tryd.prog 17 #[.string s, .int .u8 44] w fun e w' => ∃ g c ws, e = .returned (.slice (some ⟨g, 0, none⟩) ws.length c) ∧ ws.map txL = spl (txL s) ∧ OwnT w' w.heap.size (.slice (some ⟨g, 0, none⟩) ws.length c) ws.length ws ∧ Below w.heap.size w w' := by
  have HTL := Lib.hid (txL_len s)
  go_enter Tryd.func17, Tryd.ntmps17
  go_wp2_with fail
  go_loopw [5, 6, 7] (fun out fr i wr => ∃ (k f : Nat) (ds : List ByteArray), k ≤ s.size ∧ f ≤ k ∧ i = .int .i64 k ∧ fr = .int .i64 f ∧ OwnT wr w.heap.size out ds.length ds ∧ spl ((txL s).take k) = ds.map txL ++ [((txL s).take k).drop f] ∧ ds.length ≤ k ∧ Below w.heap.size w wr) (fun _ _ i _ => s.size - (intOf i).toNat)
  case atStart => exact ⟨0, 0, [], Nat.zero_le _, Nat.le_refl _, rfl, rfl, OwnT.nil _ _, by rw [List.take_zero]; rfl, Nat.le_refl _, Below.refl _ _⟩
  case round =>
    obtain ⟨k, f, ds, hk, hf, rfl, rfl, hO, hS, hd, hb⟩ := hrel
    have HO := Lib.hid hO
    have HS := Lib.hid hS
    have hdl : ds.length ≤ 2097152 := by omega
    clear hS
    by_cases hlt : k < s.size
    · have HT : Hid ((txL s).take (k+1) = (txL s).take k ++ [s[k]]) := take_snoc s k hlt
      by_cases hc : s[k] = 44
      · have hc1 : ((s[k].toNat : Int) == 44) = true := by rw [hc]; rfl
        have HS1 : Hid (spl ((txL s).take (k+1)) = (ds ++ [s.extract f k]).map txL ++ [((txL s).take (k+1)).drop (k+1)]) := by
          rw [Hid, HT.out, hc, spl_snoc_comma, HS.out, List.map_append, List.map_cons, List.map_nil]
          have e1 : txL (s.extract f k) = ((txL s).take k).drop f := ext_list s f k
          have e2 : ((txL s).take k ++ [44]).drop (k+1) = [] := by
            apply List.drop_eq_nil_of_le
            simp; omega
          rw [e1, e2]
        clear hc
        go_wp2_with (at_builtin; refine pushT_at rfl _ _ rfl rfl HO.out rfl hdl hb.size ?_; intro g c w7 o7 hg7 hat7)
        go_roundw
        case rel => exact ⟨k + 1, k + 1, ds ++ [s.extract f k], by omega, Nat.le_refl _, by go_num, by go_num, by rw [List.length_append]; exact o7, HS1.out, by rw [List.length_append]; simp; omega, hb.trans (below_of_grown hg7 (fun b e => (HO.out.lt b e).1) hb.size)⟩
        case measure => simp [intOf]; omega
      · have hc1 : ((s[k].toNat : Int) == 44) = false := by
          rw [Bool.eq_false_iff]
          intro h
          apply hc
          have h1 : (s[k].toNat : Int) = 44 := by simpa using h
          apply UInt8.toNat_inj.1
          show s[k].toNat = 44
          omega
        have HS1 : Hid (spl ((txL s).take (k+1)) = ds.map txL ++ [((txL s).take (k+1)).drop f]) := by
          rw [Hid, HT.out, spl_snoc_other hc HS.out, List.drop_append_of_le_length (by rw [List.length_take, HTL.out]; omega)]
        clear hc
        go_wp2_with fail
        go_roundw
        case rel => exact ⟨k + 1, f, ds, by omega, by omega, by go_num, rfl, HO.out, HS1.out, by omega, hb⟩
        case measure => simp [intOf]; omega
    · obtain rfl : k = s.size := by omega
      have HS1 : Hid ((ds ++ [s.extract f s.size]).map txL = spl (txL s)) := by
        have e1 : txL (s.extract f s.size) = ((txL s).take s.size).drop f := ext_list s f s.size
        have e0 : (txL s).take s.size = txL s := List.take_of_length_le (by rw [HTL.out]; exact Nat.le_refl _)
        have h := HS.out
        rw [e0] at h e1
        rw [Hid, List.map_append, List.map_cons, List.map_nil, e1, h]
      go_wp2_with (at_builtin; refine pushT_at rfl _ _ rfl rfl HO.out rfl hdl hb.size ?_; intro g c w7 o7 hg7 hat7)
      go_ret
      have hl7 : (ds ++ [s.extract f s.size]).length = ds.length + 1 := by rw [List.length_append]; rfl
      exact ⟨g, c, ds ++ [s.extract f s.size], by rw [hl7]; rfl, HS1.out, by rw [hl7]; exact o7, hb.trans (below_of_grown hg7 (fun b e => (HO.out.lt b e).1) hb.size)⟩

def psL (s : ByteArray) : List Int := if s.size = 0 then [] else (spl (txL s)).map rdW
def paB (s : ByteArray) : Bool := ascB (psL s)
def paL (s : ByteArray) : List Int := if ascB (psL s) then psL s else []
theorem paL_len (s : ByteArray) : (paL s).length ≤ 1048576 := by
  unfold paL
  split
  · rename_i h
    have := (ascB_iff.1 h).1; omega
  · simp
theorem size_zero {s : ByteArray} (h : s.size = 0) : s = ⟨#[]⟩ := by
  obtain ⟨⟨l⟩⟩ := s
  have : l.length = 0 := h
  rw [List.eq_nil_of_length_eq_zero this]

theorem txt_ne {s : ByteArray} (h : ¬ s.size = 0) : s.toList.isEmpty = false := by
  rw [Lib.toList_data]
  have : s.data.toList.length = s.size := Array.length_toList
  cases e : s.data.toList with
  | nil => rw [e] at this; exact absurd this.symm h
  | cons a l => rfl
theorem spl_le : ∀ {l x : List UInt8}, x ∈ spl l → x.length ≤ l.length
  | [], x, h => by simp [spl] at h; subst h; simp
  | c :: r, x, h => by
    by_cases hc : c = 44
    · subst hc
      rw [spl_comma] at h
      rcases List.mem_cons.1 h with e | h2
      · subst e; simp
      · have := spl_le h2; simp; omega
    · obtain ⟨y, ys, e⟩ := List.exists_cons_of_ne_nil (spl_ne r)
      rw [spl_other hc _ e] at h
      rcases List.mem_cons.1 h with e2 | h2
      · subst e2
        have := spl_le (l := r) (x := y) (by rw [e]; exact List.mem_cons_self)
        simp; omega
      · have := spl_le (l := r) (x := x) (by rw [e]; exact List.mem_cons_of_mem _ h2)
        simp; omega

theorem l1In_any (n lo hi : Int) (w : World) :
    Calls Tryd.prog 20 #[.int .i64 n, .int .i64 lo, .int .i64 hi] w fun e w' => e = .returned (.bool (inB n lo hi)) ∧ w = w' := by
  go_enter Tryd.func20, Tryd.ntmps20
  go_wp2
  all_goals (go_ret; exact ⟨ret_bool (by simp [inB]; try omega), rfl⟩)
theorem l1In_is {n lo hi : Int} {b : Bool} (h : inB n lo hi = b) (w : World) (m : Nat) :
    Calls Tryd.prog 20 #[.int .i64 n, .int .i64 lo, .int .i64 hi] (w.drewN m) fun e w' => e = .returned (.bool b) ∧ ∃ k, w' = w.drewN k :=
  Calls.quiet_of_same ((l1In_any n lo hi (w.drewN m)).mono (fun e w' hh => ⟨by rw [← h]; exact hh.1, hh.2.symm⟩))

set_option maxRecDepth 100000 in
theorem l1Read_any (s : ByteArray) (w : World) (hs : s.size ≤ 1048576) :
    Calls Tryd.prog 18 #[.string s] w fun e w' => e = .returned (.int .i64 (rdW (txL s))) ∧ Below w.heap.size w w' := by
  have HTL := txL_len s
  cases hin : inB (s.size : Int) 1 6
  · have HI := Lib.hid hin
    have HR : Hid (rdW (txL s) = -1) := by rw [Hid, rdW, HTL, hin]; rfl
    clear hin
    go_enter Tryd.func18, Tryd.ntmps18
    go_wp2_with fail
    refine (l1In_any _ _ _ _).mono ?_
    rw [HI.out]
    rintro e w1 ⟨rfl, rfl⟩
    go_wp2_with fail
    go_ret
    exact ⟨ret_int HR.out.symm, Below.refl _ _⟩
  · have ⟨h0, h6⟩ := inB_iff.1 hin
    have HI := Lib.hid hin
    have h00 : 0 < s.size := by omega
    have hh : (txL s).head? = some s[0] := by
      have : (txL s)[0]? = some s[0] := by rw [List.getElem?_eq_getElem (by rw [HTL]; exact h00)]; rfl
      rw [← this, List.head?_eq_getElem?]
    by_cases hz : s[0] = 48 ∧ 1 < s.size
    · obtain ⟨hz0, hz1⟩ := hz
      have HR : Hid (rdW (txL s) = -1) := by rw [Hid, rdW, HTL, hin, if_pos rfl, if_pos ⟨by rw [hh, hz0], hz1⟩]
      have hz2 : ((s[0].toNat : Int) == 48) = true := by rw [hz0]; rfl
      have hz3 : (1 : Int) < (s.size : Int) := by omega
      clear hin hh hz0
      go_enter Tryd.func18, Tryd.ntmps18
      go_wp2_with fail
      refine (l1In_any _ _ _ _).mono ?_
      rw [HI.out]
      rintro e w1 ⟨rfl, rfl⟩
      go_wp2_with fail
      go_ret
      exact ⟨ret_int HR.out.symm, Below.refl _ _⟩
    · have HR : Hid (rdW (txL s) = match Lib.decFrom 0 (txL s) with | some v => (v : Int) | none => -1) := by
        rw [Hid, rdW, HTL, hin, if_pos rfl, if_neg (by rw [hh]; intro h; apply hz; exact ⟨by simpa using h.1, h.2⟩)]
      have HDL : Hid (∀ n, Lib.decFrom 0 (txL s) = some n → ∀ (k : Nat) (b : UInt8), (txL s)[k]? = some b → ∃ d, Lib.digitVal b = some d) := fun n h => Lib.digit_of_decFrom _ _ _ h
      have HLT : Hid (∀ (k n : Nat), k ≤ s.size → Lib.decFrom 0 ((txL s).take k) = some n → n < 10 ^ k) := by
        intro k n hk h
        have := decFrom_lt h
        rw [List.length_take, HTL, Nat.min_eq_left hk] at this
        simpa using this
      have hpre : (((s[0].toNat : Int) == 48) = true ∧ ¬ (1 : Int) < (s.size : Int)) ∨ ((s[0].toNat : Int) == 48) = false := by
        by_cases e : s[0] = 48
        · exact .inl ⟨by rw [e]; rfl, fun h => hz ⟨e, by omega⟩⟩
        · refine .inr ?_
          rw [Bool.eq_false_iff]
          intro h
          apply e
          have h1 : (s[0].toNat : Int) = 48 := by simpa using h
          apply UInt8.toNat_inj.1
          show s[0].toNat = 48
          omega
      clear hin hh hz
      rcases hpre with ⟨hz2, hz3⟩ | hz2
      all_goals
        go_enter Tryd.func18, Tryd.ntmps18
        go_wp2_with fail
        refine (l1In_any _ _ _ _).mono ?_
        rw [HI.out]
        rintro e w1 ⟨rfl, rfl⟩
        go_wp2_with fail
        clear hz2
        go_loopw [3, 4] (fun v i wr => ∃ k n : Nat, k ≤ s.size ∧ i = .int .i64 k ∧ v = .int .i64 n ∧ Lib.decFrom 0 ((txL s).take k) = some n ∧ Below w.heap.size w wr) (fun _ i _ => s.size - (intOf i).toNat)
        case atStart => exact ⟨0, 0, Nat.zero_le _, rfl, rfl, by rw [List.take_zero]; rfl, Below.refl _ _⟩
        case round =>
          obtain ⟨k, n, hk, rfl, rfl, hd, hb⟩ := hrel
          have HD := Lib.hid hd
          by_cases hlt : k < s.size
          · have hn := HLT.out k n hk hd
            have hp : 10 ^ k ≤ 10 ^ 6 := Nat.pow_le_pow_right (by omega) (by omega)
            have hn6 : n < 1000000 := by omega
            have hat : (txL s)[k]? = some s[k] := by rw [List.getElem?_eq_getElem (by rw [HTL]; exact hlt)]; rfl
            have HAT := Lib.hid hat
            clear hd hn hp hat
            by_cases hc : 48 ≤ s[k].toNat ∧ s[k].toNat ≤ 57
            · obtain ⟨hc0, hc1⟩ := hc
              have HN : Hid (Lib.decFrom 0 ((txL s).take (k+1)) = some (n * 10 + (s[k].toNat - 48))) := Lib.decFrom_take (txL s) k 0 n s[k] (s[k].toNat - 48) HD.out HAT.out (by rw [Lib.digitVal, if_pos ⟨hc0, hc1⟩])
              have hx0 : (48 : Int) ≤ (s[k].toNat : Int) := by omega
              have hx1 : (s[k].toNat : Int) ≤ 57 := by omega
              go_wp2_with fail
              exact ⟨⟨k + 1, n * 10 + (s[k].toNat - 48), by omega, by go_num, val_int (by omega), HN.out, hb⟩, by simp [intOf]; omega⟩
            · have HN : Hid (rdW (txL s) = -1) := by
                rw [Hid, HR.out]
                cases hv : Lib.decFrom 0 (txL s) with
                | none => rfl
                | some v =>
                  obtain ⟨d, hd⟩ := HDL.out v hv k s[k] HAT.out
                  rw [Lib.digitVal, if_neg hc] at hd
                  cases hd
              by_cases hc0 : s[k].toNat < 48
              · have hx0 : (s[k].toNat : Int) < 48 := by omega
                clear hc hc0
                go_wp2_with fail
                go_ret
                exact ⟨ret_int HN.out.symm, hb⟩
              · have hx0 : ¬ (s[k].toNat : Int) < 48 := by omega
                have hx1 : (57 : Int) < (s[k].toNat : Int) := by omega
                clear hc hc0
                go_wp2_with fail
                go_ret
                exact ⟨ret_int HN.out.symm, hb⟩
          · obtain rfl : k = s.size := by omega
            have HN : Hid (rdW (txL s) = (n : Int)) := by
              have h := HD.out
              rw [List.take_of_length_le (by rw [HTL]; exact Nat.le_refl _)] at h
              rw [Hid, HR.out, h]
            go_wp2_with fail
            go_ret
            exact ⟨ret_int HN.out.symm, hb⟩

theorem asAscents_q (a : Option Addr) (xs : List Int) (n cap : Nat) (w : World) (hx : Rd w a xs) (hn : n ≤ xs.length) :
    Calls Tryd.prog 30 #[.slice a n cap] w fun e w' => e = .returned (.int .i64 (ascTo xs n : Nat)) ∧ ∃ m, w' = w.drewN m := by
  have hlen := hx.len
  have HA : Hid (∀ k, ascTo xs k ≤ k - 1) := ascTo_le xs
  go_enter Tryd.func30, Tryd.ntmps30
  go_wp2_with fail
  go_loopw [3, 4] (fun s i wr => ∃ k : Nat, 1 ≤ k ∧ k ≤ max 1 n ∧ i = .int .i64 k ∧ s = .int .i64 (ascTo xs k : Nat) ∧ ∃ m, wr = w.drewN m) (fun _ i _ => n + 1 - (intOf i).toNat)
  case atStart => exact ⟨1, by omega, by omega, rfl, rfl, 0, rfl⟩
  case round =>
    obtain ⟨k, hk1, hk, rfl, rfl, m0, rfl⟩ := hrel
    by_cases hlt : k < n
    · obtain ⟨b, off, rfl, hbl, hc⟩ := hx.cell k (by omega)
      obtain ⟨b', off', e', hbl', hc'⟩ := hx.cell (k-1) (by omega)
      simp only [Option.some.injEq, Addr.mk.injEq, and_true] at e'
      obtain ⟨rfl, rfl⟩ := e'
      have hak := HA.out k
      have hcast : IntKind.i64.wrap ((k : Int) - 1) = ((k - 1 : Nat) : Int) := by rw [i64_wrap, IntWalk.wrap64_in _ ⟨by omega, by omega⟩]; omega
      cases hr : riseB xs k
      · have H1 := Lib.hid (ascTo_no hr)
        have hge : ¬ nth xs (k-1) < nth xs k := by
          intro h; rw [riseB_iff.2 ⟨by omega, h⟩] at hr; cases hr
        clear hr
        go_wp2_with fail
        go_quiet (fail)
        go_wp2_with fail
        go_roundw
        case rel => exact ⟨k + 1, by omega, by omega, by go_num, by rw [H1.out], _, rfl⟩
        case measure => simp [intOf]; omega
      · have H1 := Lib.hid (ascTo_yes hr)
        have hge : nth xs (k-1) < nth xs k := (riseB_iff.1 hr).2
        clear hr
        go_wp2_with fail
        go_quiet (fail)
        go_wp2_with fail
        go_roundw
        case rel => exact ⟨k + 1, by omega, by omega, by go_num, by rw [H1.out]; go_num, _, rfl⟩
        case measure => simp [intOf]; omega
    · have HE : Hid (ascTo xs k = ascTo xs n) := by
        by_cases h0 : n = 0
        · obtain rfl : k = 1 := by omega
          rw [Hid, h0]; rfl
        · obtain rfl : k = n := by omega
          rfl
      go_wp2_with fail
      go_ret
      exact ⟨ret_int (by rw [HE.out]), m0, rfl⟩
theorem asAscents_any (a : Option Addr) (xs : List Int) (n cap : Nat) (w : World) (hx : Rd w a xs) (hn : n ≤ xs.length) :
    Calls Tryd.prog 30 #[.slice a n cap] w fun e w' => e = .returned (.int .i64 (ascTo xs n : Nat)) ∧ Below w.heap.size w w' :=
  (asAscents_q a xs n cap w hx hn).mono (fun e w' ⟨h1, m, h2⟩ => ⟨h1, by rw [h2]; exact Joins.below_draws _ _ _⟩)

theorem asBound_q (a : Option Addr) (xs : List Int) (n cap : Nat) (w : World) (hx : Rd w a xs) (hn : n ≤ xs.length) :
    Calls Tryd.prog 21 #[.slice a n cap] w fun e w' => e = .returned (.int .i64 (bndTo xs n)) ∧ ∃ m, w' = w.drewN m := by
  have hlen := hx.len
  by_cases h0 : n = 0
  · subst h0
    go_enter Tryd.func21, Tryd.ntmps21
    go_wp2_with fail
    go_ret
    exact ⟨rfl, 0, rfl⟩
  · have H1 : Hid (bndTo xs n = (ascTo xs n : Int) + 1) := bndTo_pos xs (by omega)
    have hal := ascTo_le xs n
    go_enter Tryd.func21, Tryd.ntmps21
    go_wp2_with fail
    refine (asAscents_q _ xs _ _ _ hx hn).mono ?_
    rintro e w1 ⟨rfl, m, rfl⟩
    go_wp2_with fail
    go_ret
    exact ⟨ret_int (by rw [H1.out]), m, rfl⟩
theorem asBound_any (a : Option Addr) (xs : List Int) (n cap : Nat) (w : World) (hx : Rd w a xs) (hn : n ≤ xs.length) :
    Calls Tryd.prog 21 #[.slice a n cap] w fun e w' => e = .returned (.int .i64 (bndTo xs n)) ∧ Below w.heap.size w w' :=
  (asBound_q a xs n cap w hx hn).mono (fun e w' ⟨h1, m, h2⟩ => ⟨h1, by rw [h2]; exact Joins.below_draws _ _ _⟩)
theorem asBound_is {a : Option Addr} {xs : List Int} {n cap : Nat} {w : World} (hx : Rd w a xs) (hn : n ≤ xs.length) {b : Int} (hb : bndTo xs n = b) (m : Nat) :
    Calls Tryd.prog 21 #[.slice a n cap] (w.drewN m) fun e w' => e = .returned (.int .i64 b) ∧ ∃ k, w' = w.drewN k :=
  Calls.quiet_of ((asBound_q a xs n cap (w.drewN m) (hx.below (Joins.below_draws _ _ _)) hn).mono (fun e w' hh => ⟨by rw [← hb]; exact hh.1, hh.2⟩))

theorem asGood_any (a : Option Addr) (xs : List Int) (cap : Nat) (w : World) (hx : Rd w a xs) (hcap : xs.length ≤ cap) :
    Calls Tryd.prog 13 #[.slice a xs.length cap] w fun e w' => e = .returned (.bool (ascB xs)) ∧ Below w.heap.size w w' := by
  have hlen := hx.len
  by_cases hl : xs.length ≤ 12
  · go_enter Tryd.func13, Tryd.ntmps13
    go_wp2_with fail
    go_loopw [10] (fun i wr => ∃ k : Nat, k ≤ xs.length ∧ i = .int .i64 k ∧ (∀ j, j < k → ascOk xs j = true) ∧ Below w.heap.size w wr) (fun i _ => xs.length - (intOf i).toNat)
    case atStart => exact ⟨0, Nat.zero_le _, rfl, fun j hj => by omega, Below.refl _ _⟩
    case round =>
      obtain ⟨k, hk, rfl, hall, hb⟩ := hrel
      have HA := Lib.hid hall
      clear hall
      by_cases hlt : k < xs.length
      · have hxr := hx.below hb
        obtain ⟨b, off, rfl, hbl, hc⟩ := hxr.cell k hlt
        have k1 : (k : Int) ≤ (cap : Int) := by omega
        have k0 : (0 : Int) ≤ (k : Int) := by omega
        cases hin : ascOk xs k
        · have HO : Hid (ascB xs = false) := ascB_no hlt hin
          have hin' : inB (nth xs k) 0 (bndTo xs k) = false := hin
          have HI := Lib.hid hin'
          clear hin hin'
          go_wp2_with fail
          refine (asBound_any _ xs k _ _ hxr hk).mono ?_
          rintro e w1 ⟨rfl, hb1⟩
          go_wp2_with fail
          refine (l1In_any _ _ _ _).mono ?_
          rintro e w' ⟨rfl, rfl⟩
          rw [HI.out]
          go_wp2_with fail
          go_ret
          exact ⟨ret_bool HO.out.symm, hb.trans (hb1.mono hb.size)⟩
        · have hin' : inB (nth xs k) 0 (bndTo xs k) = true := hin
          have HI := Lib.hid hin'
          have HM := Lib.hid hin
          clear hin hin'
          go_wp2_with fail
          refine (asBound_any _ xs k _ _ hxr hk).mono ?_
          rintro e w1 ⟨rfl, hb1⟩
          go_wp2_with fail
          refine (l1In_any _ _ _ _).mono ?_
          rintro e w' ⟨rfl, rfl⟩
          rw [HI.out]
          go_wp2_with fail
          go_roundw
          case rel =>
            refine ⟨k + 1, by omega, by go_num, fun j hj => ?_, hb.trans (hb1.mono hb.size)⟩
            by_cases e : j = k
            · rw [e]; exact HM.out
            · exact HA.out j (by omega)
          case measure => simp [intOf]; omega
      · obtain rfl : k = xs.length := by omega
        have HO : Hid (ascB xs = true) := ascB_iff.2 ⟨hl, HA.out⟩
        go_wp2_with fail
        go_ret
        exact ⟨ret_bool HO.out.symm, hb⟩
  · have HO := Lib.hid (ascB_long hl)
    go_enter Tryd.func13, Tryd.ntmps13
    go_wp2_with fail
    go_ret
    exact ⟨ret_bool HO.out.symm, Below.refl _ _⟩

/-- one number more at the end of a row that is owned -/
theorem push_at {ops : Array Oper} {rest : List Oper} {o : Oper} {a : Act} {Q : Exit → Act → World → Prop} (hgd : o.guard = none) (s x : Operand)
    (ho : o.op = .call { callee := .builtin .append, args := #[s, x], argTypes := #[22, 22] }) {wr : World} {B : Nat} {v : Value} {ys : List Int} {z : Int}
    (hs : a.eval s = v) (hown : OwnI wr B v ys) (hx : a.eval x = .slice (some ⟨wr.heap.size, 0, none⟩) 1 1) (h63 : ys.length ≤ 1048576) (hB : B ≤ wr.heap.size)
    (h : ∀ v' w', OwnI w' B v' (ys ++ [z]) → wr.grownBy w' v.ownBlock → (v'.ownBlock = v.ownBlock ∨ v'.ownBlock = some (wr.heap.size + 1)) → wpList Tryd.prog ops Q rest (a.put o.dst v') w') :
    wpList Tryd.prog ops Q (o :: rest) a (wr.alloc (.cells #[.int .i64 z] 3)) := by
  obtain ⟨i0, hi, hz0, hz1, hz2⟩ := info_parts infoInt
  refine wpList_append_own_at _ hgd s x 22 ho B 3 i0 (.int .i64 0) 1 8 Tryd.underlying22 hi hz0 hz1 hz2 rfl (by decide) v ys.length (ys.map (Value.int .i64)) hs (hown.alloc _) ⟨wr.heap.size, 0, none⟩ 1 1 [.int .i64 z] hx rfl (cell_one_new _ _ _) (by intro u hu; simp at hu; subst hu; rfl) (by unfold maxLen; omega) (by omega) (by simp; omega) ?_
  intro v' w' ho2 hg _ hat
  refine h v' w' ?_ (grown_alloc_set hg) (by simpa using hat)
  unfold OwnI
  rw [List.length_append, List.map_append]
  exact ho2
/-- the same at a step of a region that draws its order; the new number lies somewhere -/
theorem step_push {ops : Array Oper} {o : Oper} {a : Act} {K : Act → World → Prop} {Q : Exit → Act → World → Prop} {E : Prop} (hgd : o.guard = none) (s x : Operand)
    (ho : o.op = .call { callee := .builtin .append, args := #[s, x], argTypes := #[22, 22] }) {W : World} {B g n : Nat} {v : Value} {ys : List Int} {z : Int}
    (hs : a.eval s = v) (hx : a.eval x = .slice (some ⟨g, 0, none⟩) 1 1) (hown : OwnI W B v ys) (hn : ys.length = n) (hz : W.cell? ⟨g, 0, none⟩ = some (.int .i64 z)) (h63 : n ≤ 1048576) (hB : B ≤ W.heap.size)
    (h : ∀ g' cap w', OwnI w' B (.slice (some ⟨g', 0, none⟩) (n + 1) cap) (ys ++ [z]) → W.grownBy w' v.ownBlock → (v.ownBlock = some g' ∨ g' = W.heap.size) → K (a.put o.dst (.slice (some ⟨g', 0, none⟩) (n + 1) cap)) w') :
    if Region.wanted o (yielded ops a.tmps) = true then Oper.wp Tryd.prog o a W K Q else E := by
  subst hn
  obtain ⟨i0, hi, hz0, hz1, hz2⟩ := info_parts infoInt
  refine step_append_lies W hgd s x 22 ho B 3 i0 (.int .i64 0) 1 8 Tryd.underlying22 hi hz0 hz1 hz2 rfl (by decide) v ys.length (ys.map (Value.int .i64)) hs hown ⟨g, 0, none⟩ 1 1 [.int .i64 z] hx rfl ?_ (by intro u hu; simp at hu; subst hu; rfl) (by omega) (by unfold maxLen; omega) (by omega) hB W.heap.size rfl ?_
  · intro j u hj
    obtain ⟨hlt, e⟩ := List.getElem?_eq_some_iff.1 hj
    have h0 : j = 0 := by simpa using hlt
    subst h0
    simp at e
    subst e
    rw [Addr.add_lit]; simpa using hz
  · intro g' cap w' ho2 hg hat _
    refine h g' cap w' ?_ hg hat
    unfold OwnI
    rw [List.length_append, List.map_append]
    exact ho2
theorem news_after {w w3 : World} {x : Int} {m : Nat} (h : Below ((w.drewN m).alloc (.cells #[.int .i64 x] 3)).heap.size ((w.drewN m).alloc (.cells #[.int .i64 x] 3)) w3) : w3.cell? ⟨w.heap.size, 0, none⟩ = some (.int .i64 x) :=
  (h.cell (p := ⟨w.heap.size, 0, none⟩) (show w.heap.size < ((w.drewN m).alloc _).heap.size by rw [World.size_alloc]; exact Nat.lt_succ_of_le (Joins.below_draws w.heap.size w m).size)).trans ((show ∀ W : World, (W.alloc (.cells #[.int .i64 x] 3)).cell? ⟨W.heap.size, 0, none⟩ = some (.int .i64 x) from fun W => by simp) (w.drewN m))
theorem below_after {w w3 : World} {m : Nat} {o : Obj} (h : Below ((w.drewN m).alloc o).heap.size ((w.drewN m).alloc o) w3) : Below w.heap.size w w3 :=
  Below.trans ((Joins.below_draws w.heap.size w m).alloc (Joins.below_draws w.heap.size w m).size _) (h.mono (Nat.le_trans (Joins.below_draws w.heap.size w m).size (by simp)))
theorem below_drew {w w3 : World} {m : Nat} (h : Below (w.drewN m).heap.size (w.drewN m) w3) : Below w.heap.size w w3 :=
  Below.trans (Joins.below_draws w.heap.size w m) (h.mono (Joins.below_draws w.heap.size w m).size)
/-- two values that own no block together -/
def SepV (v u : Value) : Prop := ∀ c, v.ownBlock = some c → u.ownBlock ≠ some c
theorem SepV.symm {v u : Value} (h : SepV v u) : SepV u v := fun c e e2 => h c e2 e
/-- the first of two rows has grown -/
theorem SepV.grow {w : World} {B : Nat} {v v' u : Value} {ys : List Int} {m : Nat} (h : SepV v u) (hu : OwnI w B u ys) (hm : w.heap.size ≤ m) (hat : v'.ownBlock = v.ownBlock ∨ v'.ownBlock = some m) : SepV v' u := by
  intro c e e2
  rcases hat with h1 | h1
  · exact h c (h1 ▸ e) e2
  · rw [h1] at e
    have := (hu.lt c e2).2
    simp only [Option.some.injEq] at e
    omega

set_option maxRecDepth 100000 in
theorem sParse_any (s : ByteArray) (w : World) (hs : s.size ≤ 1048576) :
    Calls Tryd.prog 9 #[.string s] w fun e w' => ∃ a' cap', e = .returned (.tuple #[.slice a' (paL s).length cap', .bool (paB s)]) ∧ OwnI w' w.heap.size (.slice a' (paL s).length cap') (paL s) ∧ Below w.heap.size w w' := by
  by_cases h0 : s.size = 0
  · have HB : Hid (paB s = true) := by rw [Hid, paB, psL, if_pos h0]; rfl
    have HL : Hid (paL s = []) := by rw [Hid, paL, psL, if_pos h0]; rfl
    obtain rfl := size_zero h0
    have HA : Hid (ascB [] = true) := rfl
    go_enter Tryd.func9, Tryd.ntmps9
    go_wp2_with fail
    refine (asGood_any none [] 0 _ (OwnI.nil w 0).rd (by simp)).mono ?_
    rw [HA.out]
    rintro e w1 ⟨rfl, hb1⟩
    go_wp2_with fail
    refine bodyPost_ret (v := .tuple #[.slice none 0 0, .bool true]) (by simp [results, Tryd.results9, go_sem]) rfl ?_
    exact ⟨none, 0, by rw [HB.out, HL.out]; rfl, by rw [HL.out]; exact OwnI.nil _ _, hb1⟩
  · have hne := txt_ne h0
    have HL : Hid (psL s = (spl (txL s)).map rdW) := by rw [Hid, psL, if_neg h0]
    go_enter Tryd.func9, Tryd.ntmps9
    go_wp2_with fail
    refine (l1Split_any s _ hs).mono ?_
    rintro e w3 ⟨g, c, ws, rfl, hws, hO, hb3⟩
    have hcnt := spl_count (txL s)
    rw [← hws, List.length_map, txL_len] at hcnt
    have hwl : ws.length ≤ 1048577 := by omega
    have HPS : Hid (psL s = ws.map (fun x => rdW (txL x))) := by rw [Hid, HL.out, ← hws, List.map_map]; rfl
    have HWS : Hid (∀ x ∈ ws, x.size ≤ 1048576) := by
      intro x hx
      have h1 : txL x ∈ spl (txL s) := by rw [← hws]; exact List.mem_map_of_mem hx
      have h2 := spl_le h1
      rw [txL_len, txL_len] at h2
      omega
    obtain ⟨B3, hB3⟩ : ∃ B3, B3 = w3.heap.size := ⟨_, rfl⟩
    have HB3 := Lib.hid hB3
    have hBw : w.heap.size ≤ B3 := by rw [hB3]; exact hb3.size
    have bb : Below B3 w3 w3 := Below.refl _ _
    have HO := Lib.hid hO
    clear hws hcnt hO hB3
    go_wp2_with fail
    go_loopw [4, 12] (fun v i wr => ∃ k : Nat, k ≤ ws.length ∧ i = .int .i64 k ∧ OwnI wr B3 v ((ws.take k).map (fun x => rdW (txL x))) ∧ Below B3 w3 wr) (fun _ i _ => ws.length - (intOf i).toNat)
    case atStart => exact ⟨0, Nat.zero_le _, rfl, OwnI.nil _ _, bb⟩
    case round =>
      clear bb
      obtain ⟨k, hk, rfl, hv, hbr⟩ := hrel
      have hsz := hbr.size
      have HV := Lib.hid hv
      by_cases hlt : k < ws.length
      · have hOr : OwnT wr w.heap.size (.slice (some ⟨g, 0, none⟩) ws.length c) ws.length ws := HO.out.below hbr (by rw [HB3.out]; exact Nat.le_refl _)
        have ck : wr.cell? ⟨g, k, none⟩ = some (.string ws[k]) := by
          rw [World.ownsRow.cellAt hOr k (by omega)]
          simp [hlt]
        have hwk := HWS.out ws[k] (List.getElem_mem hlt)
        have HT : Hid ((ws.take (k+1)).map (fun x => rdW (txL x)) = (ws.take k).map (fun x => rdW (txL x)) ++ [rdW (txL ws[k])]) := by
          rw [Hid, List.take_succ_eq_append_getElem hlt, List.map_append]; rfl
        have hlk : ((ws.take k).map (fun x => rdW (txL x))).length ≤ 1048576 := by simp; omega
        obtain ⟨X, hX⟩ : ∃ X, X = ws[k] := ⟨_, rfl⟩
        rw [← hX] at ck hwk HT
        have hB3r : B3 ≤ wr.heap.size := by have := HB3.out; omega
        clear hX hOr hv
        go_wp2_with fail
        refine (l1Read_any X _ hwk).mono ?_
        rintro e w4 ⟨rfl, hb4⟩
        have hv4 := Lib.hid (HV.out.below hb4 (Nat.le_refl _))
        have hb5 := hbr.trans (hb4.mono hB3r)
        have hs5 : B3 ≤ w4.heap.size := Nat.le_trans hB3r hb4.size
        go_wp2_with (at_builtin; refine push_at rfl _ _ rfl rfl hv4.out rfl hlk hs5 ?_; intro v7 w7 o7 hg7 hat7)
        go_roundw
        case rel => exact ⟨k + 1, by omega, by go_num, by rw [HT.out]; exact o7, hb5.trans (below_of_grown hg7 (fun b e => (hv4.out.lt b e).1) hs5)⟩
        case measure => simp [intOf]; omega
      · obtain rfl : k = ws.length := by omega
        have hv2 : OwnI wr B3 u4 (psL s) := by
          have := HV.out
          rw [List.take_length, ← HPS.out] at this
          exact this
        obtain ⟨a4, c4, rfl⟩ := hv2.form
        have hcap4 := hv2.capLe
        have hbw : Below w.heap.size w wr := hb3.trans (hbr.mono hBw)
        have HV2 := Lib.hid hv2
        clear hv HV hv2
        cases hA : ascB (psL s)
        · have HA := Lib.hid hA
          have HB1 : Hid (paB s = false) := hA
          have HP1 : Hid (paL s = []) := by rw [Hid, paL, hA]; rfl
          clear hA
          go_wp2_with fail
          refine (asGood_any a4 (psL s) c4 _ HV2.out.rd hcap4).mono ?_
          rw [HA.out]
          rintro e w1 ⟨rfl, hb1⟩
          go_wp2_with fail
          refine bodyPost_ret (v := .tuple #[.slice none 0 0, .bool false]) (by simp [results, Tryd.results9, go_sem]) rfl ?_
          exact ⟨none, 0, by rw [HB1.out, HP1.out]; rfl, by rw [HP1.out]; exact OwnI.nil _ _, hbw.trans (hb1.mono hbw.size)⟩
        · have HA := Lib.hid hA
          have HB1 : Hid (paB s = true) := hA
          have HP1 : Hid (paL s = psL s) := by rw [Hid, paL, hA]; rfl
          clear hA
          go_wp2_with fail
          refine (asGood_any a4 (psL s) c4 _ HV2.out.rd hcap4).mono ?_
          rw [HA.out]
          rintro e w1 ⟨rfl, hb1⟩
          go_wp2_with fail
          refine bodyPost_ret (v := .tuple #[.slice a4 (psL s).length c4, .bool true]) (by simp [results, Tryd.results9, go_sem]) rfl ?_
          exact ⟨a4, c4, by rw [HB1.out, HP1.out], by rw [HP1.out]; exact (HV2.out.below hb1 (Nat.le_refl _)).mono hBw, hbw.trans (hb1.mono hbw.size)⟩

theorem var_below {n : String} {cs : Array Value} {w w' : World} (h : w.var? Tryd.prog n = some cs) (hb : Below w.heap.size w w') : w'.var? Tryd.prog n = some cs := by
  unfold World.var? at h ⊢
  cases hg : Tryd.prog.globalNamed n with
  | none => rw [hg] at h; cases h
  | some g =>
    rw [hg] at h
    simp only [Option.bind_some] at h ⊢
    have hlt : g < w.heap.size := by
      rcases Nat.lt_or_ge g w.heap.size with h' | h'
      · exact h'
      · rw [Array.getElem?_eq_none h'] at h; cases h
    rw [hb.block g hlt]
    exact h
/-- the library's variables that reading numbers needs -/
structure NumOk (w : World) : Prop where
  tab : Lib.TabIs Tryd.prog w "internal/strconv.uint64pow10" .u64 Lib.pow10Tab
  syn : ∃ tp p, w.var? Tryd.prog "strconv.ErrSyntax" = some #[.iface tp p]
  rng : ∃ tp p, w.var? Tryd.prog "strconv.ErrRange" = some #[.iface tp p]
theorem NumOk.below {w w' : World} (h : NumOk w) (hb : Below w.heap.size w w') : NumOk w' := by
  obtain ⟨h1, ⟨a, b, h2⟩, ⟨c, d, h3⟩⟩ := h
  exact ⟨var_below h1 hb, ⟨a, b, var_below h2 hb⟩, ⟨c, d, var_below h3 hb⟩⟩

/-- the number whose numeral a text is -/
def numOf (l : List UInt8) : Option Int := match Lib.atoiAll l with | .ok v => if Lib.itoa v = l then some v else none | _ => none
def rdAll : List (List UInt8) → Option (List Int)
  | [] => some []
  | w :: r => match numOf w with | none => none | some v => (rdAll r).map (v :: ·)
def dgL (v : Nat) : List UInt8 := if v < 10 then [UInt8.ofNat (48 + v)] else [49, UInt8.ofNat (38 + v)]
theorem dgL_dec {v : Nat} (h : v ≤ 11) : Lib.decDigits v = dgL v := by
  by_cases h10 : v < 10
  · rw [Lib.decDigits, dif_pos h10, dgL, if_pos h10]
  · have h1 : v / 10 = 1 := by omega
    have h2 : 48 + v % 10 = 38 + v := by omega
    rw [Lib.decDigits, dif_neg h10, h1, Lib.decDigits, dif_pos (by omega), h2, dgL, if_neg h10]; rfl
theorem dgL_all : ∀ v : Fin 12, rdW (dgL v.val) = (v.val : Int) ∧ Lib.atoiAll (dgL v.val) = .ok (v.val : Int) := by decide +kernel
theorem dgL_num {v : Nat} (h : v ≤ 11) : numOf (dgL v) = some (v : Int) := by
  have h1 := (dgL_all ⟨v, by omega⟩).2
  simp only at h1
  have h2 : Lib.itoa (v : Int) = dgL v := by
    rw [Lib.itoa, if_neg (by omega), ← dgL_dec h]; rfl
  simp only [numOf, h1, h2, if_true]
theorem dig_of {b : UInt8} {d : Nat} (h : Lib.digitVal b = some d) : b = UInt8.ofNat (48 + d) ∧ d ≤ 9 := by
  unfold Lib.digitVal at h
  split at h
  · rename_i hb
    have : b.toNat - 48 = d := by simpa using h
    refine ⟨?_, by omega⟩
    apply UInt8.toNat_inj.1
    have h3 : (UInt8.ofNat (48 + d)).toNat = 48 + d := by simp; omega
    rw [h3]; omega
  · cases h
theorem decFrom_ge : ∀ {l : List UInt8} {acc n : Nat}, Lib.decFrom acc l = some n → acc ≤ n
  | [], acc, n, h => by simp [Lib.decFrom] at h; omega
  | b :: r, acc, n, h => by
    simp only [Lib.decFrom] at h
    cases hd : Lib.digitVal b with
    | none => simp [hd] at h
    | some d =>
      simp only [hd] at h
      have := decFrom_ge h
      omega
theorem rdW_small {l : List UInt8} (h0 : 0 ≤ rdW l) (h1 : rdW l ≤ 11) : l = dgL (rdW l).toNat := by
  have hin : inB (l.length : Int) 1 6 = true := by
    cases h : inB (l.length : Int) 1 6
    · rw [rdW, h] at h0; simp at h0
    · rfl
  have hz : ¬ (l.head? = some 48 ∧ 1 < l.length) := by
    intro h
    rw [rdW, if_pos hin, if_pos h] at h0
    simp at h0
  rw [rdW, if_pos hin, if_neg hz] at h0 h1 ⊢
  cases hd : Lib.decFrom 0 l with
  | none => rw [hd] at h0; simp at h0
  | some n =>
    rw [hd] at h1
    have hn : n ≤ 11 := by have h2 : (n : Int) ≤ 11 := h1; omega
    show l = dgL n
    match l, hd, hz, hin with
    | [], _, _, hin => have := inB_iff.1 hin; simp at this
    | [b], hd, _, _ =>
      simp only [Lib.decFrom] at hd
      cases e : Lib.digitVal b with
      | none => simp [e] at hd
      | some d =>
        simp [e] at hd
        obtain ⟨e1, e2⟩ := dig_of e
        subst hd
        rw [dgL, if_pos (by omega), e1]
    | [a, b], hd, hz, _ =>
      simp only [Lib.decFrom] at hd
      cases e : Lib.digitVal a with
      | none => simp [e] at hd
      | some d =>
        simp only [e] at hd
        cases e' : Lib.digitVal b with
        | none => simp [e'] at hd
        | some d' =>
          simp [e'] at hd
          obtain ⟨e1, e2⟩ := dig_of e
          obtain ⟨e3, e4⟩ := dig_of e'
          have hd1 : d ≠ 0 := by
            intro e0
            apply hz
            refine ⟨?_, by simp⟩
            rw [e1, e0]; rfl
          have h3 : d = 1 := by omega
          subst h3
          rw [dgL, if_neg (by omega), e1, e3]
          congr 2
          congr 1
          omega
    | a :: b :: c :: r, hd, hz, _ =>
      simp only [Lib.decFrom] at hd
      cases e : Lib.digitVal a with
      | none => simp [e] at hd
      | some d =>
        simp only [e] at hd
        cases e' : Lib.digitVal b with
        | none => simp [e'] at hd
        | some d' =>
          simp only [e'] at hd
          cases e'' : Lib.digitVal c with
          | none => simp [e''] at hd
          | some d'' =>
            simp only [e''] at hd
            obtain ⟨e1, e2⟩ := dig_of e
            have hd1 : d ≠ 0 := by
              intro e0
              apply hz
              refine ⟨?_, by simp⟩
              rw [e1, e0]; rfl
            have := decFrom_ge hd
            omega
theorem num_rd {l : List UInt8} {v : Int} (h : numOf l = some v) (h0 : 0 ≤ v) (h1 : v ≤ 11) : rdW l = v := by
  obtain ⟨n, rfl⟩ := Int.eq_ofNat_of_zero_le h0
  unfold numOf at h
  cases e : Lib.atoiAll l with
  | ok u =>
    rw [e] at h
    simp only at h
    split at h
    · rename_i hi
      have hu : u = (n : Int) := by simpa using h
      subst hu
      rw [Lib.itoa, if_neg (by omega)] at hi
      have h2 : l = dgL n := by rw [← hi, ← dgL_dec (by omega)]; rfl
      rw [h2]
      exact (dgL_all ⟨n, by omega⟩).1
    · cases h
  | «syntax» => rw [e] at h; cases h
  | range => rw [e] at h; cases h
theorem rd_num {l : List UInt8} (h0 : 0 ≤ rdW l) (h1 : rdW l ≤ 11) : numOf l = some (rdW l) := by
  obtain ⟨n, hn⟩ := Int.eq_ofNat_of_zero_le h0
  have h2 := rdW_small h0 h1
  have h3 : (rdW l).toNat = n := by rw [hn]; rfl
  rw [h3] at h2
  rw [hn]
  conv => lhs; rw [h2]
  exact dgL_num (by omega)
theorem rdAll_of : ∀ {W : List (List UInt8)}, (∀ x ∈ W, 0 ≤ rdW x ∧ rdW x ≤ 11) → rdAll W = some (W.map rdW)
  | [], _ => rfl
  | w :: r, h => by
    have h1 := h w List.mem_cons_self
    rw [rdAll, rd_num h1.1 h1.2, rdAll_of (fun x hx => h x (List.mem_cons_of_mem _ hx))]; rfl
theorem of_rdAll : ∀ {W : List (List UInt8)} {vs : List Int}, rdAll W = some vs → (∀ x ∈ vs, 0 ≤ x ∧ x ≤ 11) → W.map rdW = vs
  | [], vs, h, _ => by simp [rdAll] at h; subst h; rfl
  | w :: r, vs, h, hb => by
    rw [rdAll] at h
    cases e : numOf w with
    | none => rw [e] at h; cases h
    | some v =>
      rw [e] at h
      cases e2 : rdAll r with
      | none => rw [e2] at h; cases h
      | some us =>
        rw [e2] at h
        have h2 : v :: us = vs := by simpa using h
        subst h2
        have h3 := hb v List.mem_cons_self
        rw [List.map_cons, num_rd e h3.1 h3.2, of_rdAll e2 (fun x hx => hb x (List.mem_cons_of_mem _ hx))]
theorem asc_mem {xs : List Int} (h : ascB xs = true) : ∀ x ∈ xs, 0 ≤ x ∧ x ≤ 11 := by
  intro x hx
  obtain ⟨k, hk, e⟩ := List.getElem_of_mem hx
  have := ascB_small h hk
  rw [nth_get xs k hk, e] at this
  exact this
/-- what the program makes of the words -/
theorem pa_none {s : ByteArray} (h0 : ¬ s.size = 0) (h : rdAll (spl (txL s)) = none) : paB s = false ∧ paL s = [] := by
  have h1 : ascB (psL s) = false := by
    cases hA : ascB (psL s)
    · rfl
    · rw [psL, if_neg h0] at hA
      have := rdAll_of (W := spl (txL s)) (fun x hx => asc_mem hA (rdW x) (List.mem_map_of_mem hx))
      rw [this] at h; cases h
  exact ⟨h1, by rw [paL, h1]; rfl⟩
theorem pa_some {s : ByteArray} {vs : List Int} (h0 : ¬ s.size = 0) (h : rdAll (spl (txL s)) = some vs) : paB s = ascB vs ∧ paL s = if ascB vs then vs else [] := by
  cases hA : ascB vs
  · have h1 : ascB (psL s) = false := by
      cases hB : ascB (psL s)
      · rfl
      · rw [psL, if_neg h0] at hB
        have := rdAll_of (W := spl (txL s)) (fun x hx => asc_mem hB (rdW x) (List.mem_map_of_mem hx))
        rw [this] at h
        have h2 : (spl (txL s)).map rdW = vs := by simpa using h
        rw [h2, hA] at hB; cases hB
    exact ⟨h1, by rw [paL, h1]; rfl⟩
  · have h1 : psL s = vs := by rw [psL, if_neg h0]; exact of_rdAll h (asc_mem hA)
    exact ⟨by rw [paB, h1, hA], by rw [paL, h1, hA]⟩



def Sh_lays219_ren : Go.Shelf.Ren := ⟨fun | 219 => 41 | 217 => 53 | 225 => 54 | 224 => 55 | 267 => 56 | 266 => 65 | 314 => 66 | n => n, fun | 9 => 9 | 3 => 3 | 4 => 4 | 5 => 5 | 46 => 78 | 146 => 91 | 51 => 87 | n => n, fun | 1 => 0 | n => n⟩
theorem Sh_lays219 : Go.Proofs.Lays.n219 Tryd.prog Sh_lays219_ren := {
  mixed := by kernel_rfl
  f217 := Tryd.func53.trans (congrArg some (by kernel_rfl))
  f219 := Tryd.func41.trans (congrArg some (by kernel_rfl))
  f224 := Tryd.func55.trans (congrArg some (by kernel_rfl))
  f225 := Tryd.func54.trans (congrArg some (by kernel_rfl))
  f266 := Tryd.func65.trans (congrArg some (by kernel_rfl))
  f267 := Tryd.func56.trans (congrArg some (by kernel_rfl))
  f314 := Tryd.func66.trans (congrArg some (by kernel_rfl))
  t3 := Tryd.underlying3
  a3 := Tryd.isAgg3
  z3 := Tryd.sizeOf3
  v3 := Tryd.zeroValue3
  t4 := Tryd.underlying4
  a4 := Tryd.isAgg4
  z4 := Tryd.sizeOf4
  v4 := Tryd.zeroValue4
  t5 := Tryd.underlying5
  a5 := Tryd.isAgg5
  z5 := Tryd.sizeOf5
  v5 := Tryd.zeroValue5
  t9 := Tryd.underlying9
  a9 := Tryd.isAgg9
  z9 := Tryd.sizeOf9
  v9 := Tryd.zeroValue9
  t46 := Tryd.underlying78
  a46 := Tryd.isAgg78
  z46 := Tryd.sizeOf78
  v46 := Tryd.zeroValue78
  t51 := Tryd.underlying87
  a51 := Tryd.isAgg87
  z51 := Tryd.sizeOf87
  v51 := Tryd.zeroValue87
  t146 := Tryd.underlying91
  a146 := Tryd.isAgg91
  z146 := Tryd.sizeOf91
  v146 := Tryd.zeroValue91
  g1 := by kernel_rfl }

open Go.RowKit Go.Lib in
theorem Sh_stringslite_Index_one (s : ByteArray) (c : UInt8) (w : World) :
    Calls Tryd.prog 41 #[.string s, .string ⟨#[c]⟩] w fun e w' => e = .returned (.int .i64 (Lib.indexByte s.data.toList c)) ∧ w' = w := Any.stringslite_Index_one Sh_lays219 s c w

def cutI (s : ByteArray) : Int := Lib.indexByte (txL s) 44
def cutO (s : ByteArray) : Bool := decide (0 ≤ cutI s)
def cutA (s : ByteArray) : ByteArray := if cutO s then s.extract 0 (cutI s).toNat else s
def cutB (s : ByteArray) : ByteArray := if cutO s then s.extract ((cutI s).toNat + 1) s.size else ⟨#[]⟩
theorem cut_no {s : ByteArray} (h : cutO s = false) : spl (txL s) = [txL s] := by
  have h1 : cutI s = -1 := by
    have := Lib.indexByte_ge (txL s) 44
    have h2 : ¬ 0 ≤ cutI s := by simpa [cutO] using h
    unfold cutI at h2 ⊢; omega
  refine spl_none fun hm => ?_
  obtain ⟨k, hk, e⟩ := List.getElem_of_mem hm
  exact Lib.indexByte_none h1 k (by rw [List.getElem?_eq_getElem hk, e])
theorem part_at {l : List UInt8} {o : Nat} {c : UInt8} (h : l[o]? = some c) : l = l.take o ++ c :: l.drop (o+1) := by
  obtain ⟨hlt, e⟩ := List.getElem?_eq_some_iff.1 h
  rw [← e, ← List.drop_eq_getElem_cons hlt, List.take_append_drop]
theorem cut_yes {s : ByteArray} (h : cutO s = true) : ∃ o : Nat, cutI s = (o : Int) ∧ o < s.size ∧ spl (txL s) = txL (cutA s) :: spl (txL (cutB s)) ∧ (cutB s).size < s.size := by
  have h2 : 0 ≤ cutI s := by simpa [cutO] using h
  obtain ⟨o, ho⟩ := Int.eq_ofNat_of_zero_le h2
  have ⟨h3, h4⟩ := Lib.indexByte_some (show Lib.indexByte (txL s) 44 = (o : Int) from ho)
  have hlt : o < (txL s).length := (List.getElem?_eq_some_iff.1 h3).1
  have hlt2 : o < s.size := by rw [txL_len] at hlt; exact hlt
  have e1 : txL (cutA s) = (txL s).take o := by
    rw [cutA, if_pos h, ho]
    exact (ext_list s 0 o).trans (by rw [List.drop_zero]; rfl)
  have e2 : txL (cutB s) = (txL s).drop (o+1) := by
    rw [cutB, if_pos h, ho]
    refine (ext_list s (o+1) s.size).trans ?_
    rw [List.take_of_length_le (by have := txL_len s; unfold txL at this; omega)]; rfl
  refine ⟨o, ho, hlt2, ?_, ?_⟩
  · have e3 := part_at h3
    rw [e1, e2]
    conv => lhs; rw [e3]
    refine spl_cut _ fun hm => ?_
    obtain ⟨k, hk, e⟩ := List.getElem_of_mem hm
    have hk2 : k < o := by rw [List.length_take] at hk; omega
    refine h4 k hk2 ?_
    rw [List.getElem_take] at e
    rw [List.getElem?_eq_getElem (by omega), e]
  · have h5 := txL_len (cutB s)
    rw [e2, List.length_drop, txL_len] at h5
    omega
set_option maxRecDepth 100000 in
theorem slCut_any (s : ByteArray) (w : World) (hs : s.size ≤ 1048576) :
    Calls Tryd.prog 35 #[.string s, .string ⟨#[44]⟩] w fun e w' => e = .returned (.tuple #[.string (cutA s), .string (cutB s), .bool (cutO s)]) ∧ Below w.heap.size w w' := by
  cases h : cutO s
  · have HA : Hid (cutA s = s) := by rw [Hid, cutA, h]; rfl
    have HB : Hid (cutB s = ⟨#[]⟩) := by rw [Hid, cutB, h]; rfl
    have hi : ¬ 0 ≤ Lib.indexByte s.data.toList 44 := by
      have : ¬ 0 ≤ cutI s := by simpa [cutO] using h
      exact this
    have hi2 := Lib.indexByte_ge s.data.toList 44
    obtain ⟨I, hI⟩ : ∃ I, I = Lib.indexByte s.data.toList 44 := ⟨_, rfl⟩
    rw [← hI] at hi hi2
    have HII := Lib.hid hI
    clear h hI
    go_enter Tryd.func35, Tryd.ntmps35
    go_wp2_with fail
    refine (Sh_stringslite_Index_one s 44 _).mono ?_
    rw [← HII.out]
    rintro e w1 ⟨rfl, rfl⟩
    go_wp2_with fail
    refine bodyPost_ret (v := .tuple #[.string s, .string ⟨#[]⟩, .bool false]) (by simp [results, Tryd.results35, go_sem]) rfl ?_
    exact ⟨by rw [HA.out, HB.out], Below.refl _ _⟩
  · obtain ⟨o, ho, hlt, _, _⟩ := cut_yes h
    have HA : Hid (cutA s = s.extract 0 o) := by rw [Hid, cutA, h, ho]; rfl
    have HB : Hid (cutB s = s.extract (o+1) s.size) := by rw [Hid, cutB, h, ho]; rfl
    have HI : Hid (Lib.indexByte s.data.toList 44 = (o : Int)) := ho
    have hc1 : IntKind.i64.wrap ((o : Int) + 1) = ((o + 1 : Nat) : Int) := by rw [i64_wrap, IntWalk.wrap64_in _ ⟨by omega, by omega⟩]; omega
    have ho1 : o + 1 ≤ s.size := by omega
    have ho2 : ((o + 1 : Nat) : Int) ≤ (s.size : Int) := by omega
    have ho3 : (o : Int) ≤ (s.size : Int) := by omega
    clear h ho
    go_enter Tryd.func35, Tryd.ntmps35
    go_wp2_with fail
    refine (Sh_stringslite_Index_one s 44 _).mono ?_
    rw [HI.out]
    rintro e w1 ⟨rfl, rfl⟩
    go_wp2_with fail
    go_quiet (fail)
    go_wp2_with fail
    refine bodyPost_ret (v := .tuple #[.string (s.extract 0 o), .string (s.extract (o+1) s.size), .bool true]) (by simp [results, Tryd.results35, go_sem]) rfl ?_
    exact ⟨by rw [HA.out, HB.out], Joins.below_draws _ _ _⟩
set_option maxRecDepth 100000 in
theorem cut_any (s : ByteArray) (w : World) (hs : s.size ≤ 1048576) :
    Calls Tryd.prog 28 #[.string s, .string ⟨#[44]⟩] w fun e w' => e = .returned (.tuple #[.string (cutA s), .string (cutB s), .bool (cutO s)]) ∧ Below w.heap.size w w' := by
  go_enter Tryd.func28, Tryd.ntmps28
  go_wp2_with fail
  refine (slCut_any s _ hs).mono ?_
  rintro e w1 ⟨rfl, hb1⟩
  go_wp2_with fail
  refine bodyPost_ret (v := .tuple #[.string (cutA s), .string (cutB s), .bool (cutO s)]) (by simp [results, Tryd.results28, go_sem]) rfl ?_
  exact ⟨rfl, hb1⟩

def Sh_laysM171_ren : Go.Shelf.Ren := ⟨fun | 171 => 26 | 243 => 31 | 246 => 38 | 283 => 47 | 284 => 48 | 285 => 49 | 286 => 50 | 129 => 61 | 317 => 60 | 318 => 62 | 319 => 63 | 320 => 64 | 337 => 69 | 338 => 70 | n => n, fun | 3 => 3 | 9 => 9 | 2 => 2 | 4 => 4 | 171 => 67 | 0 => 0 | 53 => 68 | 37 => 51 | 5 => 5 | 173 => 71 | 212 => 86 | 51 => 87 | 20 => 20 | 213 => 88 | 46 => 78 | 232 => 98 | 233 => 99 | n => n, fun | 17 => 3 | 18 => 4 | 19 => 5 | n => n⟩
theorem Sh_laysM171 : Go.Proofs.LaysM.n171 Tryd.prog Sh_laysM171_ren := {
  mixed := by kernel_rfl
  f129 := Tryd.func61.trans (congrArg some (by kernel_rfl))
  f171 := Tryd.func26.trans (congrArg some (by kernel_rfl))
  f243 := Tryd.func31.trans (congrArg some (by kernel_rfl))
  f246 := Tryd.func38.trans (congrArg some (by kernel_rfl))
  f283 := Tryd.func47.trans (congrArg some (by kernel_rfl))
  f284 := Tryd.func48.trans (congrArg some (by kernel_rfl))
  f285 := Tryd.func49.trans (congrArg some (by kernel_rfl))
  f286 := Tryd.func50.trans (congrArg some (by kernel_rfl))
  f317 := Tryd.func60.trans (congrArg some (by kernel_rfl))
  f318 := Tryd.func62.trans (congrArg some (by kernel_rfl))
  f319 := Tryd.func63.trans (congrArg some (by kernel_rfl))
  f320 := Tryd.func64.trans (congrArg some (by kernel_rfl))
  f337 := Tryd.func69.trans (congrArg some (by kernel_rfl))
  f338 := Tryd.func70.trans (congrArg some (by kernel_rfl))
  t0 := Tryd.underlying0
  a0 := Tryd.isAgg0
  z0 := Tryd.sizeOf0
  v0 := Tryd.zeroValue0
  t2 := Tryd.underlying2
  a2 := Tryd.isAgg2
  z2 := Tryd.sizeOf2
  v2 := Tryd.zeroValue2
  t3 := Tryd.underlying3
  a3 := Tryd.isAgg3
  z3 := Tryd.sizeOf3
  v3 := Tryd.zeroValue3
  t4 := Tryd.underlying4
  a4 := Tryd.isAgg4
  z4 := Tryd.sizeOf4
  v4 := Tryd.zeroValue4
  t5 := Tryd.underlying5
  a5 := Tryd.isAgg5
  z5 := Tryd.sizeOf5
  v5 := Tryd.zeroValue5
  t9 := Tryd.underlying9
  a9 := Tryd.isAgg9
  z9 := Tryd.sizeOf9
  v9 := Tryd.zeroValue9
  t20 := Tryd.underlying20
  a20 := Tryd.isAgg20
  z20 := Tryd.sizeOf20
  v20 := Tryd.zeroValue20
  t37 := Tryd.underlying51
  a37 := Tryd.isAgg51
  z37 := Tryd.sizeOf51
  v37 := Tryd.zeroValue51
  t46 := Tryd.underlying78
  a46 := Tryd.isAgg78
  z46 := Tryd.sizeOf78
  v46 := Tryd.zeroValue78
  t51 := Tryd.underlying87
  a51 := Tryd.isAgg87
  z51 := Tryd.sizeOf87
  v51 := Tryd.zeroValue87
  t53 := Tryd.underlying68
  a53 := Tryd.isAgg68
  z53 := Tryd.sizeOf68
  v53 := Tryd.zeroValue68
  t171 := Tryd.underlying67
  a171 := Tryd.isAgg67
  z171 := Tryd.sizeOf67
  v171 := Tryd.zeroValue67
  t173 := Tryd.underlying71
  a173 := Tryd.isAgg71
  z173 := Tryd.sizeOf71
  v173 := Tryd.zeroValue71
  t212 := Tryd.underlying86
  a212 := Tryd.isAgg86
  z212 := Tryd.sizeOf86
  v212 := Tryd.zeroValue86
  t213 := Tryd.underlying88
  a213 := Tryd.isAgg88
  z213 := Tryd.sizeOf88
  t232 := Tryd.underlying98
  a232 := Tryd.isAgg98
  z232 := Tryd.sizeOf98
  v232 := Tryd.zeroValue98
  t233 := Tryd.underlying99
  a233 := Tryd.isAgg99
  z233 := Tryd.sizeOf99
  v233 := Tryd.zeroValue99
  g17 := by kernel_rfl
  g18 := by kernel_rfl
  g19 := by kernel_rfl
  i0 := by kernel_rfl
  i2 := by kernel_rfl
  i3 := by kernel_rfl
  i4 := by kernel_rfl
  i5 := by kernel_rfl
  i9 := by kernel_rfl
  i20 := by kernel_rfl
  i37 := by kernel_rfl
  i46 := by kernel_rfl
  i51 := by kernel_rfl
  i53 := by kernel_rfl
  i171 := by kernel_rfl
  i173 := by kernel_rfl
  i212 := by kernel_rfl
  i232 := by kernel_rfl
  i233 := by kernel_rfl
  m17 := by kernel_rfl
  m18 := by kernel_rfl
  m19 := by kernel_rfl }

open Go.RowKit Go.Sort Go.Lib in
theorem Sh_strconv_Itoa (n : Int) (h0 : -9223372036854775808 ≤ n) (h1 : n ≤ 9223372036854775807) (w : World) (htab : Lib.TabIs Tryd.prog w "internal/strconv.uint64pow10" .u64 Lib.pow10Tab) :
    Calls Tryd.prog 26 #[.int .i64 n] w fun e w' => e = .returned (.string ⟨(Lib.itoa n).toArray⟩) ∧ ∃ k os, w' = grow (w.drewN k) os := Any.strconv_Itoa Sh_laysM171 n h0 h1 w htab

def Sh_laysC172_ren : Go.Shelf.Ren := ⟨fun | 172 => 29 | 244 => 36 | 245 => 37 | 247 => 42 | 279 => 43 | 280 => 44 | 281 => 45 | 282 => 46 | 287 => 57 | 316 => 58 | 171 => 26 | 205 => 59 | 321 => 67 | 322 => 68 | 243 => 31 | 246 => 38 | 283 => 47 | 284 => 48 | 285 => 49 | 286 => 50 | 129 => 61 | 317 => 60 | 318 => 62 | 319 => 63 | 320 => 64 | 337 => 69 | 338 => 70 | n => n, fun | 9 => 9 | 3 => 3 | 75 => 48 | 76 => 49 | 4 => 4 | 5 => 5 | 167 => 61 | 37 => 51 | 0 => 0 | 85 => 62 | 2 => 2 | 168 => 64 | 53 => 68 | 175 => 79 | 46 => 78 | 210 => 83 | 127 => 59 | 145 => 96 | 143 => 94 | 21 => 21 | 171 => 67 | 173 => 71 | 212 => 86 | 51 => 87 | 20 => 20 | 213 => 88 | 232 => 98 | 233 => 99 | 80 => 56 | n => n, fun | 15 => 1 | 16 => 2 | 17 => 3 | 18 => 4 | 19 => 5 | n => n⟩
theorem Sh_laysC172 : Go.Proofs.LaysC.n172 Tryd.prog Sh_laysC172_ren := {
  mixed := by kernel_rfl
  f129 := Tryd.func61.trans (congrArg some (by kernel_rfl))
  f171 := Tryd.func26.trans (congrArg some (by kernel_rfl))
  f172 := Tryd.func29.trans (congrArg some (by kernel_rfl))
  f205 := Tryd.func59.trans (congrArg some (by kernel_rfl))
  f243 := Tryd.func31.trans (congrArg some (by kernel_rfl))
  f244 := Tryd.func36.trans (congrArg some (by kernel_rfl))
  f245 := Tryd.func37.trans (congrArg some (by kernel_rfl))
  f246 := Tryd.func38.trans (congrArg some (by kernel_rfl))
  f247 := Tryd.func42.trans (congrArg some (by kernel_rfl))
  f279 := Tryd.func43.trans (congrArg some (by kernel_rfl))
  f280 := Tryd.func44.trans (congrArg some (by kernel_rfl))
  f281 := Tryd.func45.trans (congrArg some (by kernel_rfl))
  f282 := Tryd.func46.trans (congrArg some (by kernel_rfl))
  f283 := Tryd.func47.trans (congrArg some (by kernel_rfl))
  f284 := Tryd.func48.trans (congrArg some (by kernel_rfl))
  f285 := Tryd.func49.trans (congrArg some (by kernel_rfl))
  f286 := Tryd.func50.trans (congrArg some (by kernel_rfl))
  f287 := Tryd.func57.trans (congrArg some (by kernel_rfl))
  f316 := Tryd.func58.trans (congrArg some (by kernel_rfl))
  f317 := Tryd.func60.trans (congrArg some (by kernel_rfl))
  f318 := Tryd.func62.trans (congrArg some (by kernel_rfl))
  f319 := Tryd.func63.trans (congrArg some (by kernel_rfl))
  f320 := Tryd.func64.trans (congrArg some (by kernel_rfl))
  f321 := Tryd.func67.trans (congrArg some (by kernel_rfl))
  f322 := Tryd.func68.trans (congrArg some (by kernel_rfl))
  f337 := Tryd.func69.trans (congrArg some (by kernel_rfl))
  f338 := Tryd.func70.trans (congrArg some (by kernel_rfl))
  t0 := Tryd.underlying0
  a0 := Tryd.isAgg0
  z0 := Tryd.sizeOf0
  v0 := Tryd.zeroValue0
  t2 := Tryd.underlying2
  a2 := Tryd.isAgg2
  z2 := Tryd.sizeOf2
  v2 := Tryd.zeroValue2
  t3 := Tryd.underlying3
  a3 := Tryd.isAgg3
  z3 := Tryd.sizeOf3
  v3 := Tryd.zeroValue3
  t4 := Tryd.underlying4
  a4 := Tryd.isAgg4
  z4 := Tryd.sizeOf4
  v4 := Tryd.zeroValue4
  t5 := Tryd.underlying5
  a5 := Tryd.isAgg5
  z5 := Tryd.sizeOf5
  v5 := Tryd.zeroValue5
  t9 := Tryd.underlying9
  a9 := Tryd.isAgg9
  z9 := Tryd.sizeOf9
  v9 := Tryd.zeroValue9
  t20 := Tryd.underlying20
  a20 := Tryd.isAgg20
  z20 := Tryd.sizeOf20
  v20 := Tryd.zeroValue20
  t21 := Tryd.underlying21
  a21 := Tryd.isAgg21
  z21 := Tryd.sizeOf21
  v21 := Tryd.zeroValue21
  t37 := Tryd.underlying51
  a37 := Tryd.isAgg51
  z37 := Tryd.sizeOf51
  v37 := Tryd.zeroValue51
  t46 := Tryd.underlying78
  a46 := Tryd.isAgg78
  z46 := Tryd.sizeOf78
  v46 := Tryd.zeroValue78
  t51 := Tryd.underlying87
  a51 := Tryd.isAgg87
  z51 := Tryd.sizeOf87
  v51 := Tryd.zeroValue87
  t53 := Tryd.underlying68
  a53 := Tryd.isAgg68
  z53 := Tryd.sizeOf68
  v53 := Tryd.zeroValue68
  t75 := Tryd.underlying48
  a75 := Tryd.isAgg48
  z75 := Tryd.sizeOf48
  v75 := Tryd.zeroValue48
  t76 := Tryd.underlying49
  a76 := Tryd.isAgg49
  z76 := Tryd.sizeOf49
  v76 := Tryd.zeroValue49
  t85 := Tryd.underlying62
  a85 := Tryd.isAgg62
  z85 := Tryd.sizeOf62
  v85 := Tryd.zeroValue62
  t127 := Tryd.underlying59
  a127 := Tryd.isAgg59
  z127 := Tryd.sizeOf59
  v127 := Tryd.zeroValue59
  t143 := Tryd.underlying94
  a143 := Tryd.isAgg94
  z143 := Tryd.sizeOf94
  v143 := Tryd.zeroValue94
  t145 := Tryd.underlying96
  a145 := Tryd.isAgg96
  z145 := Tryd.sizeOf96
  v145 := Tryd.zeroValue96
  t167 := Tryd.underlying61
  a167 := Tryd.isAgg61
  z167 := Tryd.sizeOf61
  v167 := Tryd.zeroValue61
  t168 := Tryd.underlying64
  a168 := Tryd.isAgg64
  z168 := Tryd.sizeOf64
  v168 := Tryd.zeroValue64
  t171 := Tryd.underlying67
  a171 := Tryd.isAgg67
  z171 := Tryd.sizeOf67
  v171 := Tryd.zeroValue67
  t173 := Tryd.underlying71
  a173 := Tryd.isAgg71
  z173 := Tryd.sizeOf71
  v173 := Tryd.zeroValue71
  t175 := Tryd.underlying79
  a175 := Tryd.isAgg79
  z175 := Tryd.sizeOf79
  v175 := Tryd.zeroValue79
  t210 := Tryd.underlying83
  a210 := Tryd.isAgg83
  z210 := Tryd.sizeOf83
  v210 := Tryd.zeroValue83
  t212 := Tryd.underlying86
  a212 := Tryd.isAgg86
  z212 := Tryd.sizeOf86
  v212 := Tryd.zeroValue86
  t213 := Tryd.underlying88
  a213 := Tryd.isAgg88
  z213 := Tryd.sizeOf88
  t232 := Tryd.underlying98
  a232 := Tryd.isAgg98
  z232 := Tryd.sizeOf98
  v232 := Tryd.zeroValue98
  t233 := Tryd.underlying99
  a233 := Tryd.isAgg99
  z233 := Tryd.sizeOf99
  v233 := Tryd.zeroValue99
  g15 := by kernel_rfl
  g16 := by kernel_rfl
  g17 := by kernel_rfl
  g18 := by kernel_rfl
  g19 := by kernel_rfl
  t80 := Tryd.underlying56
  a80 := Tryd.isAgg56
  z80 := Tryd.sizeOf56
  v80 := Tryd.zeroValue56
  i0 := by kernel_rfl
  i2 := by kernel_rfl
  i3 := by kernel_rfl
  i4 := by kernel_rfl
  i5 := by kernel_rfl
  i9 := by kernel_rfl
  i20 := by kernel_rfl
  i21 := by kernel_rfl
  i37 := by kernel_rfl
  i46 := by kernel_rfl
  i51 := by kernel_rfl
  i53 := by kernel_rfl
  i75 := by kernel_rfl
  i76 := by kernel_rfl
  i80 := by kernel_rfl
  i85 := by kernel_rfl
  i127 := by kernel_rfl
  i143 := by kernel_rfl
  i145 := by kernel_rfl
  i167 := by kernel_rfl
  i168 := by kernel_rfl
  i171 := by kernel_rfl
  i173 := by kernel_rfl
  i175 := by kernel_rfl
  i210 := by kernel_rfl
  i212 := by kernel_rfl
  i232 := by kernel_rfl
  i233 := by kernel_rfl
  m15 := by kernel_rfl
  m16 := by kernel_rfl
  m17 := by kernel_rfl
  m18 := by kernel_rfl
  m19 := by kernel_rfl
  c0 := by kernel_rfl
  c2 := by kernel_rfl
  c3 := by kernel_rfl
  c4 := by kernel_rfl
  c5 := by kernel_rfl
  c9 := by kernel_rfl
  c20 := by kernel_rfl
  c21 := by kernel_rfl
  c37 := by kernel_rfl
  c46 := by kernel_rfl
  c51 := by kernel_rfl
  c53 := by kernel_rfl
  c75 := by kernel_rfl
  c76 := by kernel_rfl
  c80 := by kernel_rfl
  c85 := by kernel_rfl
  c127 := by kernel_rfl
  c143 := by kernel_rfl
  c145 := by kernel_rfl
  c167 := by kernel_rfl
  c168 := by kernel_rfl
  c171 := by kernel_rfl
  c173 := by kernel_rfl
  c175 := by kernel_rfl
  c210 := by kernel_rfl
  c212 := by kernel_rfl
  c213 := by kernel_rfl
  c232 := by kernel_rfl
  c233 := by kernel_rfl }

open Go.RowKit in
theorem Sh_strconv_Atoi_ok (s : ByteArray) (hmax : s.size ≤ 9223372036854775806) (v : Int) (h : Lib.atoiAll s.data.toList = .ok v) (w : World) :
    Calls Tryd.prog 29 #[.string s] w fun e w' => e = .returned (.tuple #[.int .i64 v, .nilIface]) ∧ (w' = w ∨ ∃ t, w' = Lib.bytesWorld w 5 t) := Any.strconv_Atoi_ok Sh_laysC172 s hmax v h w

open Go.RowKit in
theorem Sh_strconv_Atoi_syntax_var (s : ByteArray) (hlim : s.size ≤ 281474976710656) (h : Lib.atoiAll s.data.toList = .«syntax») (tp : TypeId) (p : Value) (w : World) (hvar : w.var? Tryd.prog "strconv.ErrSyntax" = some #[.iface tp p]) :
    Calls Tryd.prog 29 #[.string s] w fun e w' => ∃ N, e = .returned (.tuple #[.int .i64 0, .iface 64 (.pointer (some ⟨N, 0, none⟩))]) ∧ w.heap.size ≤ N ∧ w'.heap[N]? = some (.cells #[.string ⟨#[65, 116, 111, 105]⟩, .string s, .iface tp p] 83 (0, 0)) ∧ Below w.heap.size w w' := Any.strconv_Atoi_syntax_var Sh_laysC172 s hlim h tp p w hvar

open Go.RowKit in
theorem Sh_strconv_Atoi_range_var (s : ByteArray) (hlim : s.size ≤ 281474976710656) (h : Lib.atoiAll s.data.toList = .range) (tp : TypeId) (p : Value) (w : World) (hvar : w.var? Tryd.prog "strconv.ErrRange" = some #[.iface tp p]) :
    Calls Tryd.prog 29 #[.string s] w fun e w' => ∃ N, e = .returned (.tuple #[.int .i64 (Lib.atoiSat s.data.toList), .iface 64 (.pointer (some ⟨N, 0, none⟩))]) ∧ w.heap.size ≤ N ∧ w'.heap[N]? = some (.cells #[.string ⟨#[65, 116, 111, 105]⟩, .string s, .iface tp p] 83 (0, 0)) ∧ Below w.heap.size w w' := Any.strconv_Atoi_range_var Sh_laysC172 s hlim h tp p w hvar

theorem itoaN_any (n : Int) (w : World) (h0 : -9223372036854775808 ≤ n) (h1 : n ≤ 9223372036854775807) (hN : NumOk w) :
    Calls Tryd.prog 26 #[.int .i64 n] w fun e w' => e = .returned (.string ⟨(Lib.itoa n).toArray⟩) ∧ Below w.heap.size w w' :=
  (Sh_strconv_Itoa n h0 h1 w hN.tab).mono (fun e w' ⟨h, k, os, hw⟩ => ⟨h, by rw [hw]; exact Lib.below_grow w.heap.size w (Nat.le_refl _) k os⟩)
theorem atoiOk_any (s : ByteArray) (hs : s.size ≤ 1048576) (v : Int) (h : Lib.atoiAll (txL s) = .ok v) (w : World) :
    Calls Tryd.prog 29 #[.string s] w fun e w' => e = .returned (.tuple #[.int .i64 v, .nilIface]) ∧ Below w.heap.size w w' :=
  (Sh_strconv_Atoi_ok s (by omega) v h w).mono (fun e w' ⟨h, hw⟩ => ⟨h, by
    rcases hw with rfl | ⟨t, rfl⟩
    · exact Below.refl _ _
    · exact Lib.bytesWorld_below _ _ _⟩)
theorem atoiNo_any (s : ByteArray) (hs : s.size ≤ 1048576) (h : ∀ v, Lib.atoiAll (txL s) ≠ .ok v) (w : World) (hN : NumOk w) :
    Calls Tryd.prog 29 #[.string s] w fun e w' => (∃ v tp N, e = .returned (.tuple #[.int .i64 v, .iface tp (.pointer (some ⟨N, 0, none⟩))])) ∧ Below w.heap.size w w' := by
  obtain ⟨_, ⟨a, b, h2⟩, ⟨c, d, h3⟩⟩ := hN
  cases e : Lib.atoiAll (txL s) with
  | ok v => exact absurd e (h v)
  | «syntax» => exact (Sh_strconv_Atoi_syntax_var s (by omega) e a b w h2).mono (fun e w' ⟨N, h, _, _, hb⟩ => ⟨⟨_, _, N, h⟩, hb⟩)
  | range => exact (Sh_strconv_Atoi_range_var s (by omega) e c d w h3).mono (fun e w' ⟨N, h, _, _, hb⟩ => ⟨⟨_, _, N, h⟩, hb⟩)
theorem wd_cases (wd : ByteArray) : (∃ v, Lib.atoiAll (txL wd) = .ok v ∧ (⟨(Lib.itoa v).toArray⟩ : ByteArray) = wd ∧ numOf (txL wd) = some v ∧ -9223372036854775808 ≤ v ∧ v ≤ 9223372036854775807) ∨ (∃ v, Lib.atoiAll (txL wd) = .ok v ∧ (⟨(Lib.itoa v).toArray⟩ : ByteArray) ≠ wd ∧ numOf (txL wd) = none ∧ -9223372036854775808 ≤ v ∧ v ≤ 9223372036854775807) ∨ ((∀ v, Lib.atoiAll (txL wd) ≠ .ok v) ∧ numOf (txL wd) = none) := by
  cases e : Lib.atoiAll (txL wd) with
  | ok v =>
    have ⟨h0, h1⟩ := Lib.atoiAll_bounds e
    by_cases hi : Lib.itoa v = txL wd
    · refine .inl ⟨v, rfl, ?_, by rw [numOf, e]; simp [hi], h0, h1⟩
      rw [hi]; rfl
    · refine .inr (.inl ⟨v, rfl, ?_, by rw [numOf, e]; simp [hi], h0, h1⟩)
      intro h
      apply hi
      rw [← h]; rfl
  | «syntax» => exact .inr (.inr ⟨fun v h => (by cases h), by rw [numOf, e]⟩)
  | range => exact .inr (.inr ⟨fun v h => (by cases h), by rw [numOf, e]⟩)
def strSz : Value → Nat
  | .string s => s.size
  | _ => 0
/-- what reading numbers returns -/
def RnPost (s : ByteArray) (w : World) (e : Ending) (w' : World) : Prop := (match rdAll (spl (txL s)) with
  | some us => ∃ a c, e = .returned (.tuple #[.slice a us.length c, .bool true]) ∧ OwnI w' w.heap.size (.slice a us.length c) us
  | none => e = .returned (.tuple #[.slice none 0 0, .bool false])) ∧ Below w.heap.size w w'
theorem RnPost.no {s : ByteArray} {w w' : World} (h : rdAll (spl (txL s)) = none) (hb : Below w.heap.size w w') : RnPost s w (.returned (.tuple #[.slice none 0 0, .bool false])) w' := by
  unfold RnPost; rw [h]; exact ⟨rfl, hb⟩
theorem RnPost.yes {s : ByteArray} {w w' : World} {us : List Int} {a : Option Addr} {c : Nat} (h : rdAll (spl (txL s)) = some us) (ho : OwnI w' w.heap.size (.slice a us.length c) us) (hb : Below w.heap.size w w') : RnPost s w (.returned (.tuple #[.slice a us.length c, .bool true])) w' := by
  unfold RnPost; rw [h]; exact ⟨⟨a, c, rfl, ho⟩, hb⟩
/-- what holds at each jump back: the rest of the text, the numbers so far -/
def JRd (s : ByteArray) (w : World) (a' : Act) (w' : World) : Prop := ∃ (cur : ByteArray) (vl : Value) (vs : List Int) (u5 u6 u7 u8 u9 u10 u11 u12 u13 u14 u15 u16 u17 u18 u19 u20 u21 u22 u23 u24 u25 u26 u27 u28 u29 u30 u31 u32 u33 u34 u35 : Value), a' = { tmps := #[.string cur, undef, .slice none 0 0, .bool false, vl, u5, u6, u7, u8, u9, u10, u11, u12, u13, u14, u15, u16, u17, u18, u19, u20, u21, u22, u23, u24, u25, u26, u27, u28, u29, u30, u31, u32, u33, u34, u35], defers := [] } ∧ rdAll (spl (txL s)) = (rdAll (spl (txL cur))).map (vs ++ ·) ∧ vs.length + cur.size ≤ s.size ∧ OwnI w' w.heap.size vl vs ∧ Below w.heap.size w w'
theorem JRd.mk {s cur : ByteArray} {w w' : World} {vl : Value} {vs : List Int} {u5 u6 u7 u8 u9 u10 u11 u12 u13 u14 u15 u16 u17 u18 u19 u20 u21 u22 u23 u24 u25 u26 u27 u28 u29 u30 u31 u32 u33 u34 u35 : Value} (h1 : rdAll (spl (txL s)) = (rdAll (spl (txL cur))).map (vs ++ ·)) (h2 : vs.length + cur.size ≤ s.size) (h3 : OwnI w' w.heap.size vl vs) (h4 : Below w.heap.size w w') :
    JRd s w { tmps := #[.string cur, undef, .slice none 0 0, .bool false, vl, u5, u6, u7, u8, u9, u10, u11, u12, u13, u14, u15, u16, u17, u18, u19, u20, u21, u22, u23, u24, u25, u26, u27, u28, u29, u30, u31, u32, u33, u34, u35], defers := [] } w' := ⟨cur, vl, vs, u5, u6, u7, u8, u9, u10, u11, u12, u13, u14, u15, u16, u17, u18, u19, u20, u21, u22, u23, u24, u25, u26, u27, u28, u29, u30, u31, u32, u33, u34, u35, rfl, h1, h2, h3, h4⟩
set_option maxRecDepth 100000 in
theorem readN_any (s : ByteArray) (w : World) (hs : s.size ≤ 1048576) (hN : NumOk w) :
    Calls Tryd.prog 19 #[.string s] w fun e w' => RnPost s w e w' := by
  go_enter Tryd.func19, Tryd.ntmps19
  go_wp2_with fail
  refine wp_scope_jumps 0 (JRd s w) (fun a' _ => strSz (a'.tmps.getD 0 undef)) rfl ?first ?pass
  case' first =>
    go_wp2_with fail
    go_step3
    go_wp2_with fail
    obtain ⟨cur, hcur⟩ : ∃ cur, cur = s := ⟨s, rfl⟩
    obtain ⟨wq, hwq⟩ : ∃ wq, wq = w := ⟨w, rfl⟩
    obtain ⟨vs, hvs⟩ : ∃ vs : List Int, vs = [] := ⟨[], rfl⟩
    have HR : Hid (rdAll (spl (txL s)) = (rdAll (spl (txL cur))).map (vs ++ ·)) := by rw [Hid, hcur, hvs]; simp
    have hlen : vs.length + cur.size ≤ s.size := by rw [hcur, hvs]; simp
    have HO : Hid (OwnI wq w.heap.size (.slice none 0 0) vs) := by rw [hvs]; exact OwnI.nil _ _
    have hb : Below w.heap.size w wq := by rw [hwq]; exact Below.refl _ _
    rw [← hcur, ← hwq]
    clear hcur hwq hvs
  case' pass =>
    rintro a' wq ⟨cur, vl, vs, u5, u6, u7, u8, u9, u10, u11, u12, u13, u14, u15, u16, u17, u18, u19, u20, u21, u22, u23, u24, u25, u26, u27, u28, u29, u30, u31, u32, u33, u34, u35, rfl, hR, hlen, hO, hb⟩
    have HR := Lib.hid hR
    have HO := Lib.hid hO
    clear hR hO
    go_wp2_with fail
  all_goals
    have hcs : cur.size ≤ 1048576 := by omega
    have hq0 := hb.size
    refine (cut_any cur _ hcs).mono ?_
    rintro e w1 ⟨rfl, hb1⟩
    have b1 := hb.trans (hb1.mono hq0)
    have HO1 := Lib.hid (HO.out.below hb1 (Nat.le_refl _))
    have hq1 := b1.size
    have HSP : Hid ((cutO cur = true ∧ spl (txL cur) = txL (cutA cur) :: spl (txL (cutB cur)) ∧ (cutB cur).size < cur.size) ∨ (cutO cur = false ∧ spl (txL cur) = [txL (cutA cur)])) := by
      cases h : cutO cur
      · exact .inr ⟨rfl, by rw [cut_no h, cutA, h]; rfl⟩
      · obtain ⟨_, _, _, h1, h2⟩ := cut_yes h
        exact .inl ⟨rfl, h1, h2⟩
    have hws : (cutA cur).size ≤ 1048576 := by
      have h1 : txL (cutA cur) ∈ spl (txL cur) := by
        rcases HSP.out with ⟨_, h, _⟩ | ⟨_, h⟩ <;> rw [h] <;> exact List.mem_cons_self
      have h2 := spl_le h1
      rw [txL_len, txL_len] at h2
      omega
    obtain ⟨wd, hwd⟩ : ∃ wd, wd = cutA cur := ⟨_, rfl⟩
    obtain ⟨rs, hrs⟩ : ∃ rs, rs = cutB cur := ⟨_, rfl⟩
    obtain ⟨ok, hok⟩ : ∃ ok, ok = cutO cur := ⟨_, rfl⟩
    rw [← hwd, ← hrs, ← hok] at HSP
    rw [← hwd] at hws
    rw [← hwd, ← hrs, ← hok]
    clear hwd hrs hok hb1 HO hb
    have hN1 := hN.below b1
    rcases wd_cases wd with ⟨v, hv, hw, hnum, hv0, hv1⟩ | ⟨v, hv, hw, hnum, hv0, hv1⟩ | ⟨hv, hnum⟩
    · have HV := Lib.hid hv
      have HSP2 : Hid ((ok = true ∧ rdAll (spl (txL s)) = (rdAll (spl (txL rs))).map ((vs ++ [v]) ++ ·) ∧ rs.size < cur.size) ∨ (ok = false ∧ rdAll (spl (txL s)) = some (vs ++ [v]))) := by
        rcases HSP.out with ⟨h1, h, h2⟩ | ⟨h1, h⟩
        · refine .inl ⟨h1, ?_, h2⟩
          rw [HR.out, h, rdAll, hnum]
          cases rdAll (spl (txL rs)) <;> simp
        · refine .inr ⟨h1, ?_⟩
          rw [HR.out, h, rdAll, hnum]; rfl
      have hlv : vs.length ≤ 1048576 := by omega
      clear hv hnum HSP HR
      rcases HSP2.out with ⟨hok, hsp, hlt⟩ | ⟨hok, hsp⟩
      · have HSP3 := Lib.hid hsp
        subst hok
        have HLT := Lib.hid hlt
        clear hsp HSP2 hlt
        go_wp2_with fail
        refine (atoiOk_any wd hws v HV.out _).mono ?_
        rintro e w2 ⟨rfl, hb2⟩
        have b2 := b1.trans (hb2.mono hq1)
        have hN2 := hN.below b2
        have HO2 := Lib.hid (HO1.out.below hb2 (Nat.le_refl _))
        go_wp2_with fail
        refine (itoaN_any v _ hv0 hv1 hN2).mono ?_
        rw [hw]
        rintro e w3 ⟨rfl, hb3⟩
        have b3 := b2.trans (hb3.mono b2.size)
        have HO3 := Lib.hid (HO2.out.below hb3 (Nat.le_refl _))
        go_wp2_with (at_builtin; refine push_at rfl _ _ rfl rfl HO3.out rfl hlv b3.size ?_; intro v7 w7 o7 hg7 hat7)
        go_step3
        have hb7 : Below w.heap.size w w7 := b3.trans (below_of_grown hg7 (fun b e => (HO3.out.lt b e).1) b3.size)
        have hl7 : (vs ++ [v]).length + rs.size ≤ s.size := by have := HLT.out; rw [List.length_append]; simp; omega
        refine And.intro rfl ?_
        first
          | exact JRd.mk HSP3.out hl7 o7 hb7
          | exact And.intro (JRd.mk HSP3.out hl7 o7 hb7) HLT.out
      · have HE := Lib.hid hsp
        subst hok
        clear hsp HSP2
        go_wp2_with fail
        refine (atoiOk_any wd hws v HV.out _).mono ?_
        rintro e w2 ⟨rfl, hb2⟩
        have b2 := b1.trans (hb2.mono hq1)
        have hN2 := hN.below b2
        have HO2 := Lib.hid (HO1.out.below hb2 (Nat.le_refl _))
        go_wp2_with fail
        refine (itoaN_any v _ hv0 hv1 hN2).mono ?_
        rw [hw]
        rintro e w3 ⟨rfl, hb3⟩
        have b3 := b2.trans (hb3.mono b2.size)
        have HO3 := Lib.hid (HO2.out.below hb3 (Nat.le_refl _))
        go_wp2_with (at_builtin; refine push_at rfl _ _ rfl rfl HO3.out rfl hlv b3.size ?_; intro v7 w7 o7 hg7 hat7)
        have hb7 : Below w.heap.size w w7 := b3.trans (below_of_grown hg7 (fun b e => (HO3.out.lt b e).1) b3.size)
        obtain ⟨a7, c7, rfl⟩ := o7.form
        simp only [Exit.jump]
        refine bodyPost_ret (v := .tuple #[.slice a7 (vs ++ [v]).length c7, .bool true]) (by simp [results, Tryd.results19, go_sem]) rfl ?_
        exact RnPost.yes HE.out o7 hb7
    · have HV := Lib.hid hv
      have HNO : Hid (rdAll (spl (txL s)) = none) := by
        rw [Hid, HR.out]
        rcases HSP.out with ⟨_, h, _⟩ | ⟨_, h⟩ <;> rw [h, rdAll, hnum] <;> rfl
      have hw' : ((⟨(Lib.itoa v).toArray⟩ : ByteArray).toList == wd.toList) = false := by
        rw [Lib.toList_data, Lib.toList_data, beq_eq_false_iff_ne]
        intro h
        apply hw
        apply ByteArray.ext
        exact Array.toList_inj.1 h
      obtain ⟨it, hit⟩ : ∃ it, it = (⟨(Lib.itoa v).toArray⟩ : ByteArray) := ⟨_, rfl⟩
      rw [← hit] at hw'
      have HIT := Lib.hid hit
      clear hv hnum hw hit
      go_wp2_with fail
      refine (atoiOk_any wd hws v HV.out _).mono ?_
      rintro e w2 ⟨rfl, hb2⟩
      have b2 := b1.trans (hb2.mono hq1)
      have hN2 := hN.below b2
      go_wp2_with fail
      refine (itoaN_any v _ hv0 hv1 hN2).mono ?_
      rw [← HIT.out]
      rintro e w3 ⟨rfl, hb3⟩
      have b3 := b2.trans (hb3.mono b2.size)
      go_wp2_with fail
      simp only [Exit.jump]
      refine bodyPost_ret (v := .tuple #[.slice none 0 0, .bool false]) (by simp [results, Tryd.results19, go_sem]) rfl ?_
      exact RnPost.no HNO.out b3
    · have HV := Lib.hid hv
      have HNO : Hid (rdAll (spl (txL s)) = none) := by
        rw [Hid, HR.out]
        rcases HSP.out with ⟨_, h, _⟩ | ⟨_, h⟩ <;> rw [h, rdAll, hnum] <;> rfl
      clear hv hnum
      go_wp2_with fail
      refine (atoiNo_any wd hws HV.out _ hN1).mono ?_
      rintro e w2 ⟨⟨v, tp, N, rfl⟩, hb2⟩
      have b2 := b1.trans (hb2.mono hq1)
      go_wp2_with fail
      simp only [Exit.jump]
      refine bodyPost_ret (v := .tuple #[.slice none 0 0, .bool false]) (by simp [results, Tryd.results19, go_sem]) rfl ?_
      exact RnPost.no HNO.out b2

theorem noClimb_any (w : World) :
    Calls Tryd.prog 23 #[] w fun e w' => e = .returned (.agg #[.int .i64 (-1), .int .i64 (-1)]) ∧ Below w.heap.size w w' := by
  go_enter Tryd.func23, Tryd.ntmps23
  go_wp2
  refine bodyPost_ret (v := .agg #[.int .i64 (-1), .int .i64 (-1)]) (by simp [results, Tryd.results23, go_sem]) rfl ⟨rfl, ?_⟩
  exact (by repeat (first | exact Below.refl _ _ | assumption | refine Below.alloc ?_ (by first | exact Nat.le_refl _ | (simp only [World.size_alloc, World.size_setCell, World.size_drew]; omega) | omega) _ | refine Below.setCell ?_ (by first | exact Nat.le_refl _ | (simp only [World.size_alloc, World.size_setCell, World.size_drew]; omega) | omega) _ | refine Below.drew ?_))
theorem greatest_any (l c : Int) (w : World) (h0 : -1 ≤ c) (h1 : c ≤ 1000) :
    Calls Tryd.prog 24 #[.agg #[.int .i64 l, .int .i64 c]] w fun e w' => e = .returned (.int .i64 (c + 1)) ∧ Below w.heap.size w w' := by
  go_enter Tryd.func24, Tryd.ntmps24
  go_wp2
  go_ret
  exact ⟨rfl, (by repeat (first | exact Below.refl _ _ | assumption | refine Below.alloc ?_ (by first | exact Nat.le_refl _ | (simp only [World.size_alloc, World.size_setCell, World.size_drew]; omega) | omega) _ | refine Below.setCell ?_ (by first | exact Nat.le_refl _ | (simp only [World.size_alloc, World.size_setCell, World.size_drew]; omega) | omega) _ | refine Below.drew ?_))⟩
theorem by_any (l c x : Int) (w : World) (h0 : -1 ≤ c) (h1 : c ≤ 1000) :
    Calls Tryd.prog 25 #[.agg #[.int .i64 l, .int .i64 c], .int .i64 x] w fun e w' => e = .returned (.agg #[.int .i64 x, .int .i64 (byA l c x)]) ∧ Below w.heap.size w w' := by
  by_cases h : l < x
  · have H : Hid (byA l c x = c + 1) := by simp [Hid, byA, h]
    go_enter Tryd.func25, Tryd.ntmps25
    go_wp2
    refine bodyPost_ret (v := .agg #[.int .i64 x, .int .i64 (c + 1)]) (by simp [results, Tryd.results25, go_sem]) rfl ⟨by rw [H.out], ?_⟩
    exact (by repeat (first | exact Below.refl _ _ | assumption | refine Below.alloc ?_ (by first | exact Nat.le_refl _ | (simp only [World.size_alloc, World.size_setCell, World.size_drew]; omega) | omega) _ | refine Below.setCell ?_ (by first | exact Nat.le_refl _ | (simp only [World.size_alloc, World.size_setCell, World.size_drew]; omega) | omega) _ | refine Below.drew ?_))
  · have H : Hid (byA l c x = c) := by simp [Hid, byA, h]
    go_enter Tryd.func25, Tryd.ntmps25
    go_wp2
    refine bodyPost_ret (v := .agg #[.int .i64 x, .int .i64 c]) (by simp [results, Tryd.results25, go_sem]) rfl ⟨by rw [H.out], ?_⟩
    exact (by repeat (first | exact Below.refl _ _ | assumption | refine Below.alloc ?_ (by first | exact Nat.le_refl _ | (simp only [World.size_alloc, World.size_setCell, World.size_drew]; omega) | omega) _ | refine Below.setCell ?_ (by first | exact Nat.le_refl _ | (simp only [World.size_alloc, World.size_setCell, World.size_drew]; omega) | omega) _ | refine Below.drew ?_))

theorem iIsAscent_any (a : Option Addr) (xs : List Int) (cap : Nat) (w : World) (hx : Rd w a xs) :
    Calls Tryd.prog 15 #[.slice a xs.length cap] w fun e w' => e = .returned (.bool (ascB xs)) ∧ Below w.heap.size w w' := by
  have hlen := hx.len
  by_cases hl : xs.length ≤ 12
  · go_enter Tryd.func15, Tryd.ntmps15
    go_wp2_with fail
    refine (noClimb_any _).mono ?_
    rintro e w1 ⟨rfl, hb1⟩
    have hz1 := hb1.size
    have V1 : Var2 (w1.alloc (.cells #[.int .i64 (-1), .int .i64 (-1)] 40)) w1.heap.size (.int .i64 (-1)) (.int .i64 (-1)) := Var2.new w1 _ _ _
    have b2 : Below w.heap.size w (w1.alloc (.cells #[.int .i64 (-1), .int .i64 (-1)] 40)) := hb1.alloc hz1 _
    go_wp2_with fail
    obtain ⟨g, hg⟩ : ∃ g, g = w1.heap.size := ⟨_, rfl⟩
    rw [← hg] at V1 hz1 ⊢
    clear hg
    go_loopw [12] (fun i wr => ∃ k : Nat, k ≤ xs.length ∧ i = .int .i64 k ∧ (∀ j, j < k → ascOk xs j = true) ∧ Var2 wr g (.int .i64 (clLast xs k)) (.int .i64 (clAsc xs k)) ∧ Below w.heap.size w wr) (fun i _ => xs.length - (intOf i).toNat)
    case atStart => exact ⟨0, Nat.zero_le _, rfl, fun j hj => by omega, V1, b2⟩
    case round =>
      clear V1 b2 hb1
      obtain ⟨k, hk, rfl, hall, hV, hb⟩ := hrel
      have HA := Lib.hid hall
      have ⟨⟨zV, cV, dV⟩, fV, gV⟩ := hV
      have ⟨ca0, ca1⟩ := clAsc_lt xs k
      clear hall
      by_cases hlt : k < xs.length
      · have hxr := hx.below hb
        obtain ⟨b, off, rfl, hbl, hc⟩ := hxr.cell k hlt
        by_cases h0 : nth xs k < 0
        · have HO : Hid (ascB xs = false) := ascB_no hlt (by rw [ascOk, inB_no]; omega)
          go_wp2_with fail
          go_ret
          exact ⟨ret_bool HO.out.symm, hb⟩
        · by_cases h1 : clAsc xs k + 1 < nth xs k
          · have HO : Hid (ascB xs = false) := ascB_no hlt (by rw [ascOk, inB_no, ← clAsc_bnd]; omega)
            go_wp2_with fail
            refine (greatest_any _ _ _ ca0 (by omega)).mono ?_
            rintro e w2 ⟨rfl, hb2⟩
            go_wp2_with fail
            go_ret
            exact ⟨ret_bool HO.out.symm, hb.trans (hb2.mono hb.size)⟩
          · have HM : Hid (ascOk xs k = true) := by rw [Hid, ascOk, inB_iff, ← clAsc_bnd]; omega
            have HS : Hid (byA (clLast xs k) (clAsc xs k) (nth xs k) = clAsc xs (k+1)) := clAsc_succ (by omega)
            have HL : Hid (clLast xs (k+1) = nth xs k) := clLast_succ xs k
            go_wp2_with fail
            refine (greatest_any _ _ _ ca0 (by omega)).mono ?_
            rintro e w2 ⟨rfl, hb2⟩
            have V2 := hV.below hb2
            have ⟨⟨zV2, cV2, dV2⟩, fV2, gV2⟩ := V2
            clear cV dV fV gV
            go_wp2_with fail
            refine (by_any _ _ _ _ ca0 (by omega)).mono ?_
            rintro e w3 ⟨rfl, hb3⟩
            have V3 := V2.below hb3
            have ⟨⟨zV3, cV3, dV3⟩, fV3, gV3⟩ := V3
            clear cV2 dV2 fV2 gV2
            rw [HS.out]
            have b3 : Below w.heap.size w w3 := (hb.trans (hb2.mono hb.size)).trans (hb3.mono (Nat.le_trans hb.size hb2.size))
            go_wp2_with fail
            go_roundw
            case rel =>
              refine ⟨k + 1, by omega, by go_num, fun j hj => ?_, by rw [HL.out]; exact V3.set _ _, (b3.setCell (p := ⟨g, 0, none⟩) hz1 _).setCell (p := ⟨g, 1, none⟩) hz1 _⟩
              by_cases e : j = k
              · rw [e]; exact HM.out
              · exact HA.out j (by omega)
            case measure => simp [intOf]; omega
      · obtain rfl : k = xs.length := by omega
        have HO : Hid (ascB xs = true) := ascB_iff.2 ⟨hl, HA.out⟩
        go_wp2_with fail
        go_ret
        exact ⟨ret_bool HO.out.symm, hb⟩
  · have HO := Lib.hid (ascB_long hl)
    go_enter Tryd.func15, Tryd.ntmps15
    go_wp2_with fail
    go_ret
    exact ⟨ret_bool HO.out.symm, Below.refl _ _⟩

theorem iIsAscent_anyc (a : Option Addr) (xs : List Int) (cap : Nat) (w : World) (hx : Rd w a xs) (_ : xs.length ≤ cap) :
    Calls Tryd.prog 15 #[.slice a xs.length cap] w fun e w' => e = .returned (.bool (ascB xs)) ∧ Below w.heap.size w w' := iIsAscent_any a xs cap w hx

set_option maxRecDepth 100000 in
theorem iParse_any (s : ByteArray) (w : World) (hs : s.size ≤ 1048576) (hN : NumOk w) :
    Calls Tryd.prog 10 #[.string s] w fun e w' => ∃ a' cap', e = .returned (.tuple #[.slice a' (paL s).length cap', .bool (paB s)]) ∧ OwnI w' w.heap.size (.slice a' (paL s).length cap') (paL s) ∧ Below w.heap.size w w' := by
  by_cases h0 : s.size = 0
  · have HB : Hid (paB s = true) := by rw [Hid, paB, psL, if_pos h0]; rfl
    have HL : Hid (paL s = []) := by rw [Hid, paL, psL, if_pos h0]; rfl
    obtain rfl := size_zero h0
    go_enter Tryd.func10, Tryd.ntmps10
    go_wp2_with fail
    all_goals
      refine bodyPost_ret (v := .tuple #[.slice none 0 0, .bool true]) (by simp [results, Tryd.results10, go_sem]) rfl ?_
      exact ⟨none, 0, by rw [HB.out, HL.out]; rfl, by rw [HL.out]; exact OwnI.nil _ _, Below.refl _ _⟩
  · have hne := txt_ne h0
    go_enter Tryd.func10, Tryd.ntmps10
    go_wp2_with fail
    refine (readN_any s _ hs hN).mono ?_
    rintro e w1 ⟨hm, hb1⟩
    have HB1 := Lib.hid hb1
    cases hr : rdAll (spl (txL s)) with
    | none =>
      rw [hr] at hm
      obtain ⟨p1, p2⟩ := pa_none h0 hr
      have HB : Hid (paB s = false) := p1
      have HL : Hid (paL s = []) := p2
      subst hm
      clear p1 p2 hr
      go_wp2_with fail
      refine bodyPost_ret (v := .tuple #[.slice none 0 0, .bool false]) (by simp [results, Tryd.results10, go_sem]) rfl ?_
      exact ⟨none, 0, by rw [HB.out, HL.out]; rfl, by rw [HL.out]; exact OwnI.nil _ _, HB1.out⟩
    | some us =>
      rw [hr] at hm
      obtain ⟨a, c, rfl, ho⟩ := hm
      obtain ⟨p1, p2⟩ := pa_some h0 hr
      have HO := Lib.hid ho
      have hcap := ho.capLe
      have hs1 := hb1.size
      clear hr ho
      cases hA : ascB us
      · rw [hA] at p1 p2
        have HA := Lib.hid hA
        have HB : Hid (paB s = false) := p1
        have HL : Hid (paL s = []) := p2
        clear hA p1 p2
        go_wp2_with fail
        refine (iIsAscent_anyc a us c _ HO.out.rd hcap).mono ?_
        rw [HA.out]
        rintro e w2 ⟨rfl, hb2⟩
        go_wp2_with fail
        refine bodyPost_ret (v := .tuple #[.slice none 0 0, .bool false]) (by simp [results, Tryd.results10, go_sem]) rfl ?_
        exact ⟨none, 0, by rw [HB.out, HL.out]; rfl, by rw [HL.out]; exact OwnI.nil _ _, HB1.out.trans (hb2.mono hs1)⟩
      · rw [hA] at p1 p2
        have HA := Lib.hid hA
        have HB : Hid (paB s = true) := p1
        have HL : Hid (paL s = us) := p2
        clear hA p1 p2
        go_wp2_with fail
        refine (iIsAscent_anyc a us c _ HO.out.rd hcap).mono ?_
        rw [HA.out]
        rintro e w2 ⟨rfl, hb2⟩
        go_wp2_with fail
        refine bodyPost_ret (v := .tuple #[.slice a us.length c, .bool true]) (by simp [results, Tryd.results10, go_sem]) rfl ?_
        exact ⟨a, c, by rw [HB.out, HL.out], by rw [HL.out]; exact HO.out.below hb2 (Nat.le_refl _), HB1.out.trans (hb2.mono hs1)⟩

/-- the marks k, k + 1, .. -/
def marks (k : Int) (n : Nat) : List Int := (List.range n).map (fun (j : Nat) => k + (j : Int))
theorem marks_len (k : Int) (n : Nat) : (marks k n).length = n := by simp [marks]
theorem marks_nth {k : Int} {n j : Nat} (h : j < n) : nth (marks k n) j = k + j := by
  simp [nth, marks, h]
theorem mark_step (k : Int) (xs : List Int) (j : Nat) (h : j < xs.length) :
    ((marks k j ++ xs.drop j).map (Value.int .i64)).set j (.int .i64 (k + j)) = (marks k (j+1) ++ xs.drop (j+1)).map (Value.int .i64) := by
  apply List.ext_getElem?
  intro i
  rw [List.getElem?_set]
  by_cases hj : j = i
  · subst hj
    rw [if_pos rfl, if_pos (by simp [marks_len]; omega), List.getElem?_map, List.getElem?_append_left (by rw [marks_len]; omega)]
    simp [marks]
  · simp only [hj, if_false, List.getElem?_map, List.getElem?_append, marks_len, List.getElem?_drop]
    by_cases h1 : i < j
    · have h2 : i < j + 1 := by omega
      simp [h1, h2, marks]
    · have h2 : ¬ i < j + 1 := by omega
      have h3 : j + (i - j) = j + 1 + (i - (j + 1)) := by omega
      simp [h1, h2, h3]
theorem own_ne {v u : Value} (h : ∀ c, v.ownBlock = some c → u.ownBlock ≠ some c) : v.ownBlock = none ∨ v.ownBlock ≠ u.ownBlock := by
  cases hv : v.ownBlock with
  | none => exact .inl rfl
  | some c => exact .inr (fun e => h c hv e.symm)

theorem markIntS_any (a : Option Addr) (xs : List Int) (cap : Nat) (k : Int) (B : Nat) (w : World) (h0 : 0 ≤ k) (h1 : k ≤ 1099511627776) (hn : xs.length ≤ 1048576) (ho : OwnI w B (.slice a xs.length cap) xs) :
    Calls Tryd.prog 11 #[.slice a xs.length cap, .int .i64 k] w fun e w' => e = .returned (.int .i64 (k + xs.length)) ∧ OwnI w' B (.slice a xs.length cap) (marks k xs.length) ∧ w.grownBy w' (Value.slice a xs.length cap).ownBlock := by
  go_enter Tryd.func11, Tryd.ntmps11
  go_wp2_with fail
  go_loopw [1, 5] (fun k' i wr => ∃ j : Nat, j ≤ xs.length ∧ i = .int .i64 j ∧ k' = .int .i64 (k + j) ∧ wr.ownsRow B 3 1 (.slice a xs.length cap) xs.length ((marks k j ++ xs.drop j).map (Value.int .i64)) ∧ w.grownBy wr (Value.slice a xs.length cap).ownBlock) (fun _ i _ => xs.length - (intOf i).toNat)
  case atStart => exact ⟨0, Nat.zero_le _, rfl, by simp, by (have e : marks k 0 ++ xs.drop 0 = xs := by simp [marks]); rw [e]; exact ho, World.grownBy.refl _ _⟩
  case round =>
    obtain ⟨j, hj, rfl, rfl, hown, hg⟩ := hrel
    by_cases hlt : j < xs.length
    · obtain ⟨g, rfl⟩ : ∃ g, a = some ⟨g, 0, none⟩ := by
        rcases hown.2 with ⟨e, h⟩ | ⟨g, c, cur, e, _⟩
        · omega
        · simp only [Value.slice.injEq] at e
          exact ⟨g, e.1⟩
      have hst := World.ownsRow.stored hown j (.int .i64 (k + j))
      rw [mark_step k xs j hlt] at hst
      have hcc := World.ownsRow.cellAt hown j (by omega)
      have hfr := World.ownsRow.frozenAt hown j
      have hcc' : ∃ u, wr.cell? ⟨g, j, none⟩ = some u := by
        rw [hcc]
        exact ⟨_, List.getElem?_eq_getElem (by simp [marks_len]; omega)⟩
      obtain ⟨u, hu⟩ := hcc'
      have Hst := Lib.hid hst
      have Hg := Lib.hid (grown_trans hg hst.2)
      clear hst hcc hown hg
      go_wp2
      go_roundw
      case rel => exact ⟨j + 1, by omega, by go_num, by go_num, Hst.out.1, Hg.out⟩
      case measure => simp [intOf]; omega
    · obtain rfl : j = xs.length := by omega
      go_wp2
      go_ret
      refine ⟨rfl, ?_, hg⟩
      have e : marks k xs.length ++ xs.drop xs.length = marks k xs.length := by simp
      rw [e] at hown
      show World.ownsRow _ _ _ _ _ _ _
      rw [marks_len]
      exact hown

def eqL (xs ys : List Int) : Bool := decide (xs = ys)
theorem eqIntS_any (a b : Option Addr) (xs ys : List Int) (ca cb : Nat) (w : World) (hx : Rd w a xs) (hy : Rd w b ys) :
    Calls Tryd.prog 8 #[.slice a xs.length ca, .slice b ys.length cb] w fun e w' => e = .returned (.bool (eqL xs ys)) ∧ Below w.heap.size w w' := by
  have hlx := hx.len
  have hly := hy.len
  by_cases hl : xs.length = ys.length
  · have hl' : ((xs.length : Int) != (ys.length : Int)) = false := by simp [hl]
    go_enter Tryd.func8, Tryd.ntmps8
    have HL := Lib.hid hl
    clear hl
    go_wp2_with fail
    go_loopw [5] (fun i wr => ∃ k : Nat, k ≤ xs.length ∧ i = .int .i64 k ∧ xs.take k = ys.take k ∧ Below w.heap.size w wr) (fun i _ => xs.length - (intOf i).toNat)
    case atStart => exact ⟨0, Nat.zero_le _, rfl, rfl, Below.refl _ _⟩
    case round =>
      obtain ⟨k, hk, rfl, htk, hb⟩ := hrel
      have HT := Lib.hid htk
      clear htk
      by_cases hlt : k < xs.length
      · have hlt' : k < ys.length := by rw [← HL.out]; exact hlt
        obtain ⟨b1, o1, rfl, hb1, hc1⟩ := (hx.below hb).cell k hlt
        obtain ⟨b2, o2, rfl, hb2, hc2⟩ := (hy.below hb).cell k hlt'
        by_cases he : nth xs k = nth ys k
        · have he' : (nth xs k != nth ys k) = false := by simp [he]
          have HE := Lib.hid he
          clear he
          go_wp2_with fail
          go_quiet (fail)
          go_wp2_with fail
          go_roundw
          case rel =>
            refine ⟨k + 1, by omega, by go_num, ?_, by exact hb.trans (Joins.below_draws _ _ _)⟩
            rw [List.take_succ_eq_append_getElem hlt, List.take_succ_eq_append_getElem hlt', HT.out, ← nth_get, ← nth_get, HE.out]
          case measure => simp [intOf]; omega
        · have he' : (nth xs k != nth ys k) = true := by simp [he]
          have hne : eqL xs ys = false := by
            simp only [eqL, decide_eq_false_iff_not]
            intro e
            subst e
            exact he rfl
          have HN := Lib.hid hne
          clear he hne
          go_wp2_with fail
          go_quiet (fail)
          go_wp2_with fail
          go_ret
          exact ⟨ret_bool HN.out.symm, hb.trans (Joins.below_draws _ _ _)⟩
      · go_wp2_with fail
        go_ret
        refine ⟨ret_bool ?_, hb⟩
        have h1 := HT.out
        rw [List.take_of_length_le (by omega), List.take_of_length_le (by rw [← HL.out]; omega)] at h1
        simp [eqL, h1]
  · have hl' : ((xs.length : Int) != (ys.length : Int)) = true := by simp; omega
    have hne : eqL xs ys = false := by
      simp only [eqL, decide_eq_false_iff_not]
      intro e
      exact hl (by rw [e])
    have HN := Lib.hid hne
    clear hl hne
    go_enter Tryd.func8, Tryd.ntmps8
    go_wp2_with fail
    go_ret
    exact ⟨ret_bool HN.out.symm, Below.refl _ _⟩
theorem eqL_self (xs : List Int) : eqL xs xs = true := by simp [eqL]

theorem heldIntS_any (a : Option Addr) (n cap : Nat) (k : Int) (w : World) (h0 : 0 ≤ k) (h1 : k ≤ 1099511627776) (hn : n ≤ 1048576) (hx : Rd w a (marks k n)) :
    Calls Tryd.prog 12 #[.slice a n cap, .int .i64 k] w fun e w' => e = .returned (.int .i64 (k + n)) ∧ Below w.heap.size w w' := by
  go_enter Tryd.func12, Tryd.ntmps12
  go_wp2_with fail
  go_loop [1, 5] (fun k' i => ∃ j : Nat, j ≤ n ∧ i = .int .i64 j ∧ k' = .int .i64 (k + j)) (fun _ i => n - (intOf i).toNat)
  case atStart => exact ⟨0, Nat.zero_le _, rfl, by simp⟩
  case round =>
    obtain ⟨j, hj, rfl, rfl⟩ := hrel
    by_cases hlt : j < n
    · obtain ⟨b, off, rfl, hbl, hc⟩ := hx.cell j (by rw [marks_len]; exact hlt)
      rw [marks_nth hlt] at hc
      go_wp2_with fail
      go_round
      case rel => exact ⟨j + 1, by omega, by go_num, by go_num⟩
      case measure => simp [intOf]; omega
    · obtain rfl : j = n := by omega
      go_wp2_with fail
      go_ret
      exact ⟨rfl, (by repeat (first | exact Below.refl _ _ | assumption | refine Below.alloc ?_ (by first | exact Nat.le_refl _ | (simp only [World.size_alloc, World.size_setCell, World.size_drew]; omega) | omega) _ | refine Below.setCell ?_ (by first | exact Nat.le_refl _ | (simp only [World.size_alloc, World.size_setCell, World.size_drew]; omega) | omega) _ | refine Below.drew ?_))⟩

theorem walk (s0 : ByteArray) (w : World)  (hT : NumOk w) :
    Calls Tryd.prog 4 #[.string s0] w fun e w' => e = .returned (.bool true) ∧ Below w.heap.size w w' := by
  have hR0 : (paL s0).length ≤ 1048576 := paL_len s0
  by_cases hs0 : 1048576 < (s0.size : Int)
  · go_enter Tryd.func4, Tryd.ntmps4
    go_wp2_with fail
    go_ret
    exact ⟨rfl, (by repeat (first | exact Below.refl _ _ | assumption | refine Below.alloc ?_ (by first | exact Nat.le_refl _ | (simp only [World.size_alloc, World.size_setCell, World.size_drew]; omega) | omega) _ | refine Below.setCell ?_ (by first | exact Nat.le_refl _ | (simp only [World.size_alloc, World.size_setCell, World.size_drew]; omega) | omega) _ | refine Below.drew ?_))⟩
  go_enter Tryd.func4, Tryd.ntmps4
  go_wp2_with fail
  refine (sParse_any _ _ (by omega)).mono ?_
  rintro e w1 ⟨pR0, qR0, rfl, ho0, hb⟩
  have ht : Below w.heap.size w w1 := Below.trans (by repeat (first | exact Below.refl _ _ | assumption | refine Below.alloc ?_ (by first | exact Nat.le_refl _ | (simp only [World.size_alloc, World.size_setCell, World.size_drew]; omega) | omega) _ | refine Below.setCell ?_ (by first | exact Nat.le_refl _ | (simp only [World.size_alloc, World.size_setCell, World.size_drew]; omega) | omega) _ | refine Below.drew ?_)) (hb.mono (by first | (simp only [World.size_alloc, World.size_setCell, World.size_drew]; omega) | omega))
  have z1 : w.heap.size ≤ w1.heap.size := ht.size
  have bw1 : Below w.heap.size w w1 := ht
  have R0_1 := ho0
  have UR0 := R0_1.cut (Nat.le_refl _)
  clear ho0
  clear ht hb
  go_wp2_with fail
  refine (iParse_any _ _ (by omega) (hT.below bw1)).mono ?_
  rintro e w2 ⟨pG0, qG0, rfl, ho0, hb⟩
  have ht : Below w1.heap.size w1 w2 := hb
  have z2 : w1.heap.size ≤ w2.heap.size := ht.size
  have bw2 : Below w.heap.size w w2 := bw1.trans (ht.mono bw1.size)
  have R0_2 := R0_1.below ht (Nat.le_refl _)
  clear R0_1
  have G0_2 := ho0
  have UG0 := G0_2.cut (Nat.le_refl _)
  clear ho0
  clear ht hb
  go_wp2_with fail
  refine (eqIntS_any _ _ (paL s0) (paL s0) _ _ _ (G0_2.rd) (R0_2.rd)).mono ?_
  rw [eqL_self]
  rintro e w3 ⟨rfl, hb⟩
  have ht : Below w2.heap.size w2 w3 := hb
  have z3 : w2.heap.size ≤ w3.heap.size := ht.size
  have bw3 : Below w.heap.size w w3 := bw2.trans (ht.mono bw2.size)
  have R0_3 := R0_2.below ht (Nat.le_refl _)
  have G0_3 := G0_2.below ht (Nat.le_refl _)
  clear R0_2 G0_2
  clear ht hb
  go_wp2_with fail
  refine (markIntS_any _ _ _ _ _ _ (by omega) (by omega) hR0 G0_3).mono ?_
  rintro e w4 ⟨rfl, ho, hg⟩
  have z4 : w3.heap.size ≤ w4.heap.size := hg.size
  have bw4 : Below w.heap.size w w4 := bw3.trans (below_of_grown hg (fun b e => by have := UG0 b e; omega) (by omega))
  have R0_4 := R0_3.kept hg (own_ne (fun c e e2 => by have h1 := UR0 c e; have h2 := UG0 c e2; omega))
  clear R0_3 G0_3 hg
  have G0_4 := ho
  clear ho
  go_wp2_with fail
  refine (heldIntS_any _ _ _ _ _ (by omega) (by omega) hR0 G0_4.rd).mono ?_
  rintro e w5 ⟨rfl, hb⟩
  have ht : Below w4.heap.size w4 w5 := hb
  have z5 : w4.heap.size ≤ w5.heap.size := ht.size
  have bw5 : Below w.heap.size w w5 := bw4.trans (ht.mono bw4.size)
  have R0_5 := R0_4.below ht (Nat.le_refl _)
  have G0_5 := G0_4.below ht (Nat.le_refl _)
  clear R0_4 G0_4
  clear ht hb
  go_wp2_with fail
  refine (iParse_any _ _ (by omega) (hT.below bw5)).mono ?_
  rintro e w6 ⟨pH0, qH0, rfl, ho0, hb⟩
  have ht : Below w5.heap.size w5 w6 := hb
  have z6 : w5.heap.size ≤ w6.heap.size := ht.size
  have bw6 : Below w.heap.size w w6 := bw5.trans (ht.mono bw5.size)
  have R0_6 := R0_5.below ht (Nat.le_refl _)
  have G0_6 := G0_5.below ht (Nat.le_refl _)
  clear R0_5 G0_5
  have H0_6 := ho0
  have UH0 := H0_6.cut (Nat.le_refl _)
  clear ho0
  clear ht hb
  go_wp2_with fail
  refine (eqIntS_any _ _ (paL s0) (paL s0) _ _ _ (H0_6.rd) (R0_6.rd)).mono ?_
  rw [eqL_self]
  rintro e w7 ⟨rfl, hb⟩
  have ht : Below w6.heap.size w6 w7 := hb
  have z7 : w6.heap.size ≤ w7.heap.size := ht.size
  have bw7 : Below w.heap.size w w7 := bw6.trans (ht.mono bw6.size)
  have R0_7 := R0_6.below ht (Nat.le_refl _)
  have G0_7 := G0_6.below ht (Nat.le_refl _)
  have H0_7 := H0_6.below ht (Nat.le_refl _)
  clear R0_6 G0_6 H0_6
  clear ht hb
  go_wp2_with fail
  refine (heldIntS_any _ _ _ _ _ (by omega) (by omega) hR0 G0_7.rd).mono ?_
  rintro e w8 ⟨rfl, hb⟩
  have ht : Below w7.heap.size w7 w8 := hb
  have z8 : w7.heap.size ≤ w8.heap.size := ht.size
  have bw8 : Below w.heap.size w w8 := bw7.trans (ht.mono bw7.size)
  have R0_8 := R0_7.below ht (Nat.le_refl _)
  have G0_8 := G0_7.below ht (Nat.le_refl _)
  have H0_8 := H0_7.below ht (Nat.le_refl _)
  clear R0_7 G0_7 H0_7
  clear ht hb
  go_wp2_with fail
  go_ret
  exact ⟨rfl, bw8⟩

theorem rd_of_trod {H : Type} {enc : TypeId × Value → H} {W : World} {fuel : Nat} {c : Value} {y : DataW H × List MemPlace}
    (h : DataW.trod enc Tryd.prog W 0 (fun _ => true) true fuel 22 [c] = some y) : ∃ (a : Option Addr) (xs : List Int) (cap : Nat), c = .slice a xs.length cap ∧ Rd W a xs ∧ ∀ k, k < xs.length → (Lit.int .i64 (nth xs k)).wf = true := by
  rcases Go.ChangeShapes.open_ints Tryd.underlying22 Tryd.underlying3 (by kernel_rfl) h with ⟨hcs, _⟩ | ⟨x, len, cap, zs, hcs, _, hl, hm, hz, _, hcell, hwf⟩
  · simp only [List.cons.injEq, and_true] at hcs
    exact ⟨none, [], 0, hcs, ⟨by simp, fun k hk => by simp at hk⟩, fun k hk => by simp at hk⟩
  · simp only [List.cons.injEq, and_true] at hcs
    simp only [if_true] at hz
    have hlen : (zs.take len).length = len := by rw [List.length_take]; omega
    have hn : ∀ k, k < len → nth (zs.take len) k = zs.getD k 0 := by
      intro k hk
      simp only [nth, List.getD_eq_getElem?_getD, List.getElem?_take, hk, if_true]
    refine ⟨some x, zs.take len, cap, by rw [hlen]; exact hcs, ⟨by rw [hlen]; unfold maxLen at hm; omega, fun k hk => ?_⟩, fun k hk => ?_⟩
    · rw [hlen] at hk
      obtain ⟨b, off, sp⟩ := x
      have h0 := hcell 0 (by omega)
      have hsp : sp = none := by simpa [Addr.add] using World.cell?_spot h0
      subst hsp
      have hk' := hcell k (by omega)
      rw [Addr.add_lit] at hk'
      exact ⟨b, off, rfl, World.block_lt_of_cell? _ _ h0, by rw [hk', hn k hk]⟩
    · rw [hlen] at hk
      rw [hn k hk]
      have hk2 : k < zs.length := by omega
      exact hwf _ (by rw [List.getD_eq_getElem?_getD, List.getElem?_eq_getElem hk2]; exact List.getElem_mem hk2)

theorem own : ownKnob Tryd.prog.godebug = none := by kernel_rfl
theorem laidOut : laidOutB Tryd.prog = true := by kernel_rfl
theorem wf_bd {n : Int} (h : (Lit.int .i64 n).wf = true) : -9223372036854775808 ≤ n ∧ n ≤ 9223372036854775807 := by
  simp [Lit.wf, IntKind.min, IntKind.max, IntKind.bits, IntKind.signed] at h
  omega

def ldT {H : Type} : List (String × DataW H) := [("math/bits.deBruijn32tab", Rows.laid_math_bits_deBruijn32tab), ("math/bits.deBruijn64tab", Rows.laid_math_bits_deBruijn64tab), ("internal/strconv.uint64pow10", Rows.laid_internal_strconv_uint64pow10), ("strconv.ErrRange", Rows.laid_strconv_ErrRange), ("strconv.ErrSyntax", Rows.laid_strconv_ErrSyntax)]
theorem door_met (os : Os) (args : Array Value) : laidMetH Tryd.prog ldT ((World.doorLaid Tryd.prog 400 os).forCall (fun _ _ => 0) ⟨#[], args, []⟩).memory :=
  laidMetH_of_parts3 (fuel := 8) (laidMet_of_run' 8 (by kernel_rfl) (by kernel_rfl)) (by kernel_rfl) (by kernel_rfl)
theorem gSyn : Tryd.prog.globalNamed "strconv.ErrSyntax" = some 1 := by kernel_rfl
theorem gRng : Tryd.prog.globalNamed "strconv.ErrRange" = some 2 := by kernel_rfl
theorem gPow : Tryd.prog.globalNamed "internal/strconv.uint64pow10" = some 3 := by kernel_rfl
theorem tSyn : (Tryd.prog.globals[1]?).map (·.type) = some 48 := by kernel_rfl
theorem tRng : (Tryd.prog.globals[2]?).map (·.type) = some 48 := by kernel_rfl
theorem tPow : (Tryd.prog.globals[3]?).map (·.type) = some 86 := by kernel_rfl
theorem starErr : "*" ++ "errors.errorString" = "*errors.errorString" := by decide
theorem rowErr : ∀ u, Tryd.prog.typeName? 3 u = some "*errors.errorString" → u = 94 := fun u h =>
  typeName_ptr_named (nm := "errors.errorString") (by rw [starErr]; kernel_rfl) (by kernel_rfl) (by decide) u (by rw [starErr]; exact h)
theorem of_laid {W : World} (h : laidMetH Tryd.prog ldT W) : NumOk W := by
  unfold ldT at h
  rw [MakeChecks.laidMetH_plain _ _ _ (by kernel_rfl)] at h
  have h3 := h.tail.tail
  have h4 := h3.tail
  have h5 := h4.tail
  refine ⟨?_, ?_, ?_⟩
  · exact Lib.tabIs_of_head (t := 86) (e := 68) (n := 20) gPow tPow Tryd.underlying86 Tryd.underlying68 (by kernel_rfl) (by kernel_rfl) h3
  · obtain ⟨a, s, hv, _⟩ := laid_sentinel h5 gSyn tSyn Tryd.underlying48 rowErr Tryd.underlying94 Tryd.underlying96 rfl rfl Tryd.underlying9 (by kernel_rfl) (by kernel_rfl)
    exact ⟨_, _, hv⟩
  · obtain ⟨a, s, hv, _⟩ := laid_sentinel h4 gRng tRng Tryd.underlying48 rowErr Tryd.underlying94 Tryd.underlying96 rfl rfl Tryd.underlying9 (by kernel_rfl) (by kernel_rfl)
    exact ⟨_, _, hv⟩

open Go.ChangeShapes Go.WideShapes Go.ChangeAt Go.RowKit in
set_option maxRecDepth 100000 in
theorem lifted (os : Os) (started : os.Started) (H : Type) (enc : TypeId × Value → H) :
    ReturnsInHanded {} Tryd.checked os 4 .any (fun w args => (Rows.fnExactParseAscentSpec.pre enc Tryd.prog Tryd.f4 [] false w args ∧ laidMetH Tryd.prog ldT w) ∧ sizedMet enc Tryd.prog Tryd.f4 (OpenSpec.ofChange Rows.fnExactParseAscentSpec) false w args) (Rows.fnExactParseAscentSpec.post enc Tryd.prog Tryd.f4 false true false false) := by
  refine returnsInHanded_of_change_and (C := Tryd.checked) (X := fun w _ => laidMetH Tryd.prog ldT w) (fun _ _ _ hh h => h.of_heap hh) own started (by kernel_rfl) Tryd.func4
    (ChangeSpec.witness_shaped (enc := enc) (C := Tryd.checked) (os := os) (X := fun w _ => laidMetH Tryd.prog ldT w) false (World.doorLaid Tryd.prog 400 os) #[.string ⟨#[]⟩] 8 rfl (World.shaped_of_RefB (by kernel_rfl) (by kernel_rfl)) (by kernel_rfl) (by kernel_rfl) (by kernel_rfl) (door_met os _)) ?_
  intro W base args ds gs before hval0 hW _ _ hL _
  have hval : ∀ (j : Nat) t v, Tryd.f4.params[j]? = some t → args[j]? = some v → Value.okWide Tryd.prog W .any base t v := hval0
  have hW' := hW
  obtain ⟨p, q, hA0, hV, rfl, hfz, hnd⟩ := hW
  have hA : DataW.TrodAll enc Tryd.prog W 0 (fun _ => true) true Tryd.f4.params.toList args.toList ds p := hA0
  rw [Tryd.params4] at hA hval
  obtain ⟨v0, vs0, d0, ds0, p0, q0, hargs, rfl, rfl, h0, r0⟩ := trodAll_cons hA
  obtain ⟨rfl, rfl, rfl⟩ := trodAll_nil r0
  obtain rfl : args = #[v0] := by cases args; simp_all
  obtain ⟨rfl, rfl⟩ := trodVars_none hV
  have lt0 : ∀ x ∈ p0, x.block < W.heap.size := by obtain ⟨m, hm⟩ := h0; exact DataW.trod_lt m _ _ _ hm
  obtain ⟨s0, rfl, rfl, rfl, ws0⟩ := Go.ChangeMaps.open_string Tryd.underlying9 (hval 0 9 v0 rfl rfl) h0
  clear hA0 hval0
  refine (walk s0 W  (of_laid hL)).mono fun e W' ⟨he, bel⟩ => ?_
  subst he
  exact ⟨_, rfl, _, _, _, [], _, [], hW', trodAll_mk1 (shut_bool Tryd.underlying4 _), (trodAll_cons_mk (Below.trod laidOut (by kernel_rfl) (of_decide_eq_true (by kernel_rfl)) h0 bel lt0) trodAll_mk0), rfl, bel.frame _, fun h => by cases h⟩
theorem row_holds : Rows.FnExactParseAscentSaid :=
  OpenClaim.holds_of_wide 4 Tryd.f4 rfl rfl rfl rfl rfl rfl rfl ⟨rfl, rfl, rfl, rfl, rfl⟩ rfl rfl rfl rfl rfl (by kernel_rfl) Tryd.func4 (by kernel_rfl)
    (of_decide_eq_true (by kernel_rfl)) (by unfold Func.isWrapper; first | (rw [if_pos (by decide +kernel)]; kernel_rfl) | (rw [if_neg (by decide +kernel)]; exact ⟨rfl, rfl⟩))
    (fun os started H enc _ => lifted os started H enc)
theorem proved : Rows.FnExactParseAscentCardSaid :=
  Claim7.holds_tied_plain_at .later [] [.data, .data, .data, .sentinel, .sentinel] true (true, _) true
    row_holds (fun _ h => by cases h) (by kernel_rfl) (fun _ h => by cases h) fnExactParseAscent_row_tie rfl ⟨rfl, rfl⟩ (by kernel_rfl) rfl
    (fun f fn hf hfn => by
      obtain rfl : f = 4 := Option.some.inj ((show Tryd.prog.funcNamed "loop.example/g01106/laws.FnExactParseAscent" = some 4 by kernel_rfl).symm.trans hf) |>.symm
      obtain rfl : fn = Tryd.f4 := (Option.some.inj (Tryd.func4.symm.trans hfn)).symm
      exact ⟨by kernel_rfl, fun j t ht => by
        rw [Tryd.params4] at ht
        have hm : t ∈ [9] := by simpa using Array.mem_of_getElem? ht
        have hall : ([9].all fun u => !Tryd.prog.wantsStandIn u) = true := by kernel_rfl
        exact (show Tryd.prog.wantsStandIn t = false by simpa using List.all_eq_true.1 hall t hm)⟩)
    (by kernel_rfl)

end Go.Proofs.YtkhilginiahebabDoor.parseAscent
