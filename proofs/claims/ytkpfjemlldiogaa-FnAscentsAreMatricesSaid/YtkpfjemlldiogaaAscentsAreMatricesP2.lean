/- A part of the proof of YtkpfjemlldiogaaAscentsAreMatrices: contracts of functions. -/
import Derived.Test.YtkpfjemlldiogaaRows
import Derived.WalkKit
import Derived.WalkSpells
import Derived.WalkLawsBesides
import Derived.Deep.QuietTactic
import Derived.BigQuiet
import Derived.ProofKit
import Derived.OpenShut
import Derived.ShutString
import Derived.ChangeOld
import Derived.Below
import Derived.Lib.SmallJoins
import Derived.Lib.Hide
import Derived.Maps.AppendAt
import Derived.Deep.AppendLies
import Derived.Shelf.Slices.Reverse
import Derived.Shelf.Slices.Equal
import Derived.Shelf.Slices.Clone
import Derived.Shelf.Slices.Delete
import Derived.Shelf.Slices.Cells
import Derived.Shelf.Slices.Empties
import Derived.Shelf.Slices.Empties2
import Derived.Shelf.SlicesE.Clone
import Derived.Sort.OwnSortedInts
import Derived.Lib.SliceRun
import Derived.Deep.RegionLaw
import Derived.Deep.RegionHeld3
import Derived.Deep.DeepCutAuto
import Derived.StillTail
import Derived.Shelf.Spec.SlicesInsertGrow
import Derived.Test.YtkpfjemlldiogaaAscentsAreMatricesP1
namespace Go.Proofs.Ytkpfjemlldiogaa.ascentsAreMatrices
open Go Go.RowKit
set_option linter.unusedVariables false
set_option linter.unusedSimpArgs false
set_option maxHeartbeats 400000
open Go.Shelf
theorem take_nth {xs : List Int} {k : Nat} (h : k < xs.length) : xs.take (k+1) = xs.take k ++ [nth xs k] := by
  rw [List.take_add_one]
  congr 1
  simp [nth, List.getElem?_eq_getElem h]
/-- an ascent sequence is read back from its matrix -/
theorem as_mo {xs : List Int} (h : ascB xs = true) : ∀ k, k ≤ xs.length → asF k (moK xs k) = xs.take k
  | 0, _ => by simp [asF]
  | k+1, hk => by
    have ⟨m1, m2, m3, m4⟩ := moK_ok h (k := k) (by omega)
    have ⟨h5, h6⟩ := ascB_nth h (k := k) (by omega)
    have h7 := clAsc_bnd xs k
    have h8 := (ascB_iff.1 h).1
    have hX : (nth xs k).toNat ≤ (moK xs k).length := by omega
    have ⟨g1, g2, g3⟩ := sh_gr m1 hX (by omega)
    show asF k (shL (grL (moK xs k) (nth xs k).toNat)) ++ [topV (grL (moK xs k) (nth xs k).toNat)] = _
    rw [g3, as_mo h k (by omega), topV, if_pos g1, g2, take_nth (by omega), Int.toNat_of_nonneg h5]
theorem as_all {xs : List Int} (h : ascB xs = true) : asL (moK xs xs.length) = xs := by
  have hm := (moK_ok h (Nat.le_refl _)).2.1
  rw [asL, asN, hm, Int.toNat_natCast, as_mo h _ (Nat.le_refl _), List.take_length]
/-- how many of the first k numbers are zero -/
def zrTo (xs : List Int) : Nat → Nat
  | 0 => 0
  | k+1 => zrTo xs k + (if nth xs k = 0 then 1 else 0)
theorem zrTo_le (xs : List Int) : ∀ k, zrTo xs k ≤ k
  | 0 => Nat.le_refl _
  | k+1 => by have := zrTo_le xs k; rw [zrTo]; split <;> omega
theorem grA_row {e : Nat → Nat → Nat} {d x i : Nat} (hd : 0 < d) : sN (grA e d x i) d = sN (e i) d + if i = x then 1 else 0 := by
  have h1 : sN (grA e d x i) d = sN (fun j => e i j + if i = x ∧ j = d - 1 then 1 else 0) d := rfl
  rw [h1, sN_add, sN_one (j := d - 1) (by omega) (fun j hj hne => if_neg (fun h => hne h.2))]
  by_cases h : i = x
  · rw [if_pos ⟨h, rfl⟩, if_pos h]
  · rw [if_neg (fun hc => h hc.1), if_neg h]
theorem row_sN {xss : List (List Int)} (h : mxB xss = true) (hp : 0 < xss.length) : totR (rowL xss 0) = (sN (enN xss 0) xss.length : Int) := by
  have e := en_eta h
  have e2 : rowL xss 0 = fmap (fun j => (enN xss 0 j : Int)) xss.length := by
    conv => lhs; rw [e]
    exact sqM_row hp
  rw [e2, totR_sN]
/-- the zeros are counted by the first row -/
theorem zeros_row {xs : List Int} (h : ascB xs = true) : ∀ k, k ≤ xs.length → totR (rowL (moK xs k) 0) = (zrTo xs k : Int)
  | 0, _ => rfl
  | k+1, hk => by
    have ih := zeros_row h k (by omega)
    have ⟨m1, m2, m3, m4⟩ := moK_ok h (k := k) (by omega)
    have ⟨h5, h6⟩ := ascB_nth h (k := k) (by omega)
    have h7 := clAsc_bnd xs k
    obtain ⟨x, hx⟩ := Int.eq_ofNat_of_zero_le h5
    have hz : (nth xs k = 0) ↔ (0 = x) := by omega
    have hX : x ≤ (moK xs k).length := by omega
    show totR (rowL (grL (moK xs k) (nth xs k).toNat) 0) = _
    rw [hx, Int.toNat_natCast, zrTo, grL]
    have hz2 : (if nth xs k = 0 then 1 else 0) = (if 0 = x then 1 else 0) := by
      by_cases e : 0 = x
      · rw [if_pos e, if_pos (hz.2 e)]
      · rw [if_neg e, if_neg (fun hc => e (hz.1 hc))]
    rw [hz2]
    generalize moK xs k = M at *
    by_cases ht : (x : Int) ≤ topI M
    · rw [if_pos ht]
      have hp : 0 < M.length := by
        rcases Nat.eq_zero_or_pos M.length with h0 | h0
        · rw [topI, if_pos h0] at ht; omega
        · exact h0
      rw [sqM_row hp, totR_sN, grA_row hp]
      rw [row_sN m1 hp] at ih
      split <;> omega
    · rw [if_neg ht, sqM_row (by omega), totR_sN, grB_row hX]
      by_cases e : 0 = x
      · have h0 : M.length = 0 := by
          rcases Nat.eq_zero_or_pos M.length with h0 | h0
          · exact h0
          · rw [topI, if_neg (by omega)] at ht; omega
        have hM : M = [] := List.eq_nil_of_length_eq_zero h0
        rw [hM] at ih
        have ih2 : (0 : Int) = (zrTo xs k : Int) := ih
        rw [if_neg (by omega), if_pos e, if_pos e]; omega
      · rw [if_pos (by omega), if_neg e]
        rw [row_sN m1 (by omega)] at ih
        omega
/-- row sums and column sums add up to the sum -/
theorem rs_sum {xss : List (List Int)} (n : Nat) : ∀ k, k ≤ n → totI (fmap (fun k => totR (rowL xss k)) n) k = matS xss k
  | 0, _ => rfl
  | k+1, hk => by rw [totI, matS, rs_sum n k (by omega), fmap_nth _ (by omega)]
theorem rs_tot {xss : List (List Int)} (h : mxB xss = true) : totR (rsL xss) = matS xss xss.length := by
  rw [rsL, if_pos h, totR, fmap_len, rs_sum _ _ (Nat.le_refl _)]
theorem cs_tot {xss : List (List Int)} (h : mxB xss = true) : totR (csL xss) = matS xss xss.length := by
  have hmc := matS_cols (xss := xss) (fun i hi => mxB_len h hi)
  rw [csL, if_pos h, totR, fmap_len, ← hmc, colsL_len]
  have : ∀ k, k ≤ xss.length → totI (fmap (fun k => totR (colL xss k)) xss.length) k = matS (colsL xss) k := by
    intro k
    induction k with
    | zero => intro _; rfl
    | succ k ih => intro hk; rw [totI, matS, ih (by omega), fmap_nth _ (by omega), colsL_row (by omega)]
  exact this _ (Nat.le_refl _)
theorem rs_small {xss : List (List Int)} (h : mxB xss = true) : ∀ j, j < (rsL xss).length → 0 ≤ nth (rsL xss) j ∧ nth (rsL xss) j ≤ 1000 := fun j hj => by
  have hs : matS xss xss.length ≤ 12 := (adB_iff.1 (mxB_iff.1 h).1).2
  have hnn : ∀ i, i < (rsL xss).length → 0 ≤ nth (rsL xss) i := fun i hi => by
    rw [rsL, if_pos h, fmap_len] at hi
    rw [rsL, if_pos h, fmap_nth _ hi]
    have := (adB_row (mxB_iff.1 h).1 hi).1; omega
  have h2 := totI_at hj hnn
  have h3 := rs_tot h
  rw [totR] at h3
  exact ⟨hnn j hj, by omega⟩
theorem cs_small {xss : List (List Int)} (h : mxB xss = true) : ∀ j, j < (csL xss).length → 0 ≤ nth (csL xss) j ∧ nth (csL xss) j ≤ 1000 := fun j hj => by
  have hs : matS xss xss.length ≤ 12 := (adB_iff.1 (mxB_iff.1 h).1).2
  have hnn : ∀ i, i < (csL xss).length → 0 ≤ nth (csL xss) i := fun i hi => by
    rw [csL, if_pos h, fmap_len] at hi
    rw [csL, if_pos h, fmap_nth _ hi, ← colsL_row hi]
    have := (adB_row (mxB_iff.1 h).2.2 (k := i) (by rw [colsL_len]; exact hi)).1; omega
  have h2 := totI_at hj hnn
  have h3 := cs_tot h
  rw [totR] at h3
  exact ⟨hnn j hj, by omega⟩

/-- a block that begins with these three cells -/
def Box3 (w : World) (b : Nat) (u v x : Value) : Prop := b < w.heap.size ∧ w.cell? ⟨b, 0, none⟩ = some u ∧ w.cell? ⟨b, 1, none⟩ = some v ∧ w.cell? ⟨b, 2, none⟩ = some x
theorem Box3.below {w w' : World} {b : Nat} {u v x : Value} (h : Box3 w b u v x) (hb : Below w.heap.size w w') : Box3 w' b u v x :=
  ⟨Nat.lt_of_lt_of_le h.1 hb.size, (hb.cell (p := ⟨b, 0, none⟩) h.1).trans h.2.1, (hb.cell (p := ⟨b, 1, none⟩) h.1).trans h.2.2.1, (hb.cell (p := ⟨b, 2, none⟩) h.1).trans h.2.2.2⟩
theorem Box3.new (w : World) (u v x : Value) (t : TypeId) : Box3 (w.alloc (.cells #[u, v, x] t)) w.heap.size u v x := ⟨by simp, by simp, by simp, by simp⟩
theorem Box3.kept {w w' : World} {b : Nat} {u v x : Value} {row : Option Nat} (h : Box3 w b u v x) (hg : w.grownBy w' row) (hne : some b ≠ row) : Box3 w' b u v x :=
  ⟨Nat.lt_of_lt_of_le h.1 hg.size, hg.cell h.2.1 hne, hg.cell h.2.2.1 hne, hg.cell h.2.2.2 hne⟩
theorem Box3.alloc {w : World} {b : Nat} {u v x : Value} (h : Box3 w b u v x) (o : Obj) : Box3 (w.alloc o) b u v x := h.below ((Below.refl _ _).alloc (Nat.le_refl _) o)
theorem Box3.set {w : World} {b : Nat} {u v x : Value} (h : Box3 w b u v x) {p : Addr} (y : Value) (hne : b ≠ p.block) : Box3 (w.setCell p y) b u v x :=
  h.kept (grown_set w p y) (by simpa using hne)
/-- three cells that may be written -/
def Var3 (w : World) (b : Nat) (u v x : Value) : Prop := Box3 w b u v x ∧ w.frozen? ⟨b, 0, none⟩ = false ∧ w.frozen? ⟨b, 1, none⟩ = false ∧ w.frozen? ⟨b, 2, none⟩ = false
theorem Var3.new (w : World) (u v x : Value) (t : TypeId) : Var3 (w.alloc (.cells #[u, v, x] t)) w.heap.size u v x := ⟨Box3.new w u v x t, by simp, by simp, by simp⟩
theorem Var3.below {w w' : World} {b : Nat} {u v x : Value} (h : Var3 w b u v x) (hb : Below w.heap.size w w') : Var3 w' b u v x :=
  ⟨h.1.below hb, (hb.frozen (p := ⟨b, 0, none⟩) h.1.1).trans h.2.1, (hb.frozen (p := ⟨b, 1, none⟩) h.1.1).trans h.2.2.1, (hb.frozen (p := ⟨b, 2, none⟩) h.1.1).trans h.2.2.2⟩
theorem Var3.alloc {w : World} {b : Nat} {u v x : Value} (h : Var3 w b u v x) (o : Obj) : Var3 (w.alloc o) b u v x := h.below ((Below.refl _ _).alloc (Nat.le_refl _) o)
theorem Var3.kept {w w' : World} {b : Nat} {u v x : Value} {row : Option Nat} (h : Var3 w b u v x) (hg : w.grownBy w' row) (hne : some b ≠ row) : Var3 w' b u v x :=
  ⟨h.1.kept hg hne, (World.frozen?_of_block (w := w) (a := ⟨b, 0, none⟩) (hg.block b h.1.1 hne)).trans h.2.1, (World.frozen?_of_block (w := w) (a := ⟨b, 1, none⟩) (hg.block b h.1.1 hne)).trans h.2.2.1, (World.frozen?_of_block (w := w) (a := ⟨b, 2, none⟩) (hg.block b h.1.1 hne)).trans h.2.2.2⟩
theorem Var3.other {w : World} {b : Nat} {u v x : Value} (h : Var3 w b u v x) {p : Addr} (y : Value) (hne : b ≠ p.block) : Var3 (w.setCell p y) b u v x :=
  h.kept (grown_set w p y) (by simpa using hne)
theorem Var3.set0 {w : World} {b : Nat} {u v x : Value} (h : Var3 w b u v x) (y : Value) : Var3 (w.setCell ⟨b, 0, none⟩ y) b y v x :=
  ⟨⟨by simpa using h.1.1, World.cell?_setCell_same _ _ _ h.1.2.1, by rw [World.cell?_setCell_other _ _ _ _ (by simp)]; exact h.1.2.2.1, by rw [World.cell?_setCell_other _ _ _ _ (by simp)]; exact h.1.2.2.2⟩, by simpa using h.2.1, by simpa using h.2.2.1, by simpa using h.2.2.2⟩
theorem Var3.set1 {w : World} {b : Nat} {u v x : Value} (h : Var3 w b u v x) (y : Value) : Var3 (w.setCell ⟨b, 1, none⟩ y) b u y x :=
  ⟨⟨by simpa using h.1.1, by rw [World.cell?_setCell_other _ _ _ _ (by simp)]; exact h.1.2.1, World.cell?_setCell_same _ _ _ h.1.2.2.1, by rw [World.cell?_setCell_other _ _ _ _ (by simp)]; exact h.1.2.2.2⟩, by simpa using h.2.1, by simpa using h.2.2.1, by simpa using h.2.2.2⟩
theorem Var3.set2 {w : World} {b : Nat} {u v x : Value} (h : Var3 w b u v x) (y : Value) : Var3 (w.setCell ⟨b, 2, none⟩ y) b u v y :=
  ⟨⟨by simpa using h.1.1, by rw [World.cell?_setCell_other _ _ _ _ (by simp)]; exact h.1.2.1, by rw [World.cell?_setCell_other _ _ _ _ (by simp)]; exact h.1.2.2.1, World.cell?_setCell_same _ _ _ h.1.2.2.2⟩, by simpa using h.2.1, by simpa using h.2.2.1, by simpa using h.2.2.2⟩
theorem Var3.set {w : World} {b : Nat} {u v x : Value} (h : Var3 w b u v x) (u' v' x' : Value) : Var3 (((w.setCell ⟨b, 0, none⟩ u').setCell ⟨b, 1, none⟩ v').setCell ⟨b, 2, none⟩ x') b u' v' x' := ((h.set0 u').set1 v').set2 x'

/-- n bytes that can be read -/
structure RdB (w : World) (a : Option Addr) (n : Nat) : Prop where
  cell : ∀ k, k < n → ∃ b off, a = some ⟨b, off, none⟩ ∧ b < w.heap.size ∧ ∃ x : Int, w.cell? ⟨b, off + k, none⟩ = some (.int .u8 x) ∧ 0 ≤ x ∧ x ≤ 255
theorem RdB.kept {w w' : World} {a : Option Addr} {n p : Nat} (h : RdB w a n) (hg : w.grownBy w' (some p)) (hne : 0 < n → ∀ b off, a = some ⟨b, off, none⟩ → b ≠ p) : RdB w' a n :=
  ⟨fun k hk => by
    obtain ⟨b, off, e, hl, x, hc, h0, h1⟩ := h.cell k hk
    exact ⟨b, off, e, Nat.lt_of_lt_of_le hl hg.size, x, hg.cell hc (by have := hne (by omega) b off e; simp; omega), h0, h1⟩⟩
theorem RdB.below {w w' : World} {a : Option Addr} {n : Nat} (h : RdB w a n) (hb : Below w.heap.size w w') : RdB w' a n :=
  ⟨fun k hk => by
    obtain ⟨b, off, e, hl, x, hc, h0, h1⟩ := h.cell k hk
    exact ⟨b, off, e, Nat.lt_of_lt_of_le hl hb.size, x, (hb.cell (p := ⟨b, off + k, none⟩) hl).trans hc, h0, h1⟩⟩
/-- a cursor over bytes, at most at L -/
structure Cur (w : World) (p : Nat) (L : Nat) : Prop where
  ex : ∃ (a : Option Addr) (n cap : Nat) (t s : Int), Var3 w p (.slice a n cap) (.int .i64 t) (.int .u64 s) ∧ 0 ≤ t ∧ t ≤ (L : Int) ∧ n ≤ 1048576 ∧ RdB w a n ∧ (0 < n → ∀ b off, a = some ⟨b, off, none⟩ → b < p)
theorem Cur.mono {w : World} {p L L' : Nat} (h : Cur w p L) (hl : L ≤ L') : Cur w p L' := by
  obtain ⟨a, n, cap, t, s, h1, h2, h3, h4, h5, h6⟩ := h.ex
  exact ⟨a, n, cap, t, s, h1, h2, by omega, h4, h5, h6⟩
theorem Cur.lt {w : World} {p L : Nat} (h : Cur w p L) : p < w.heap.size := by
  obtain ⟨a, n, cap, t, s, h1, _⟩ := h.ex
  exact h1.1.1
theorem Cur.below {w w' : World} {p L : Nat} (h : Cur w p L) (hb : Below w.heap.size w w') : Cur w' p L := by
  obtain ⟨a, n, cap, t, s, h1, h2, h3, h4, h5, h6⟩ := h.ex
  exact ⟨a, n, cap, t, s, h1.below hb, h2, h3, h4, h5.below hb, h6⟩
theorem Cur.kept {w w' : World} {p L : Nat} {row : Option Nat} (h : Cur w p L) (hg : w.grownBy w' row) (hne : ∀ g, row = some g → p < g) : Cur w' p L := by
  obtain ⟨a, n, cap, t, s, h1, h2, h3, h4, h5, h6⟩ := h.ex
  refine ⟨a, n, cap, t, s, h1.kept hg (fun e => by have := hne p e.symm; omega), h2, h3, h4, ⟨fun k hk => ?_⟩, h6⟩
  obtain ⟨b, off, e, hl, x, hc, h0, h1⟩ := h5.cell k hk
  exact ⟨b, off, e, Nat.lt_of_lt_of_le hl hg.size, x, hg.cell hc (fun e2 => by have := hne b e2.symm; have := h6 (by omega) b off e; omega), h0, h1⟩
theorem Cur.set {w : World} {p L : Nat} (h : Cur w p L) (a : Addr) (u : Value) (hne : p < a.block) : Cur (w.setCell a u) p L := h.kept (grown_set w a u) (fun g e => by simp only [Option.some.injEq] at e; omega)
theorem Cur.alloc {w : World} {p L : Nat} (h : Cur w p L) (o : Obj) : Cur (w.alloc o) p L := h.below ((Below.refl _ _).alloc (Nat.le_refl _) o)
/-- all but the cursor's block is as it was -/
def Drawn (w w' : World) (p : Nat) : Prop := w.grownBy w' (some p)
theorem Drawn.refl (w : World) (p : Nat) : Drawn w w p := World.grownBy.refl _ _
theorem Drawn.trans {w w1 w2 : World} {p : Nat} (h : Drawn w w1 p) (h2 : Drawn w1 w2 p) : Drawn w w2 p := grown_trans h h2
theorem Drawn.below {w w1 w2 : World} {p : Nat} (h : Drawn w w1 p) (hb : Below w1.heap.size w1 w2) : Drawn w w2 p := grown_trans h (below_grown hb (Nat.le_refl _) _)
theorem Drawn.alloc {w w1 : World} {p : Nat} (h : Drawn w w1 p) (o : Obj) : Drawn w (w1.alloc o) p := h.below ((Below.refl _ _).alloc (Nat.le_refl _) o)
theorem Drawn.of_alloc {w w1 : World} {o : Obj} {p : Nat} (h : Drawn (w.alloc o) w1 p) : Drawn w w1 p := grown_alloc_set h
theorem Drawn.size {w w1 : World} {p : Nat} (h : Drawn w w1 p) : w.heap.size ≤ w1.heap.size := World.grownBy.size h
/-- a cursor that lies at or above B: what lies below B is as it was -/
theorem Drawn.bel {w w' : World} {p B : Nat} (h : Drawn w w' p) (hp : B ≤ p) (hs : B ≤ w.heap.size) : Below B w w' := grown_below h B hp hs
theorem and255 (a : Int) : ∃ r : Nat, r ≤ 255 ∧ bits .and .u64 a 255 = (r : Int) := by
  have h : (BitVec.ofInt 64 a &&& BitVec.ofInt 64 255).toNat ≤ 255 := by
    rw [BitVec.toNat_and]
    exact Nat.and_le_right
  refine ⟨(BitVec.ofInt 64 a &&& BitVec.ofInt 64 255).toNat, h, ?_⟩
  show IntKind.u64.wrap ((BitVec.ofInt 64 a &&& BitVec.ofInt 64 255).toNat : Int) = _
  obtain ⟨r, hr⟩ : ∃ r, r = (BitVec.ofInt 64 a &&& BitVec.ofInt 64 255).toNat := ⟨_, rfl⟩
  rw [← hr] at h ⊢
  have h2 : ((r : Int)) % (2 ^ 64 : Int) = (r : Int) := Int.emod_eq_of_lt (by omega) (by omega)
  show (if IntKind.u64.signed && ((r : Int) % (2 ^ 64 : Int)) ≥ (2 ^ 63 : Int) then ((r : Int) % (2 ^ 64 : Int)) - (2 ^ 64 : Int) else ((r : Int) % (2 ^ 64 : Int))) = _
  rw [h2]
  rfl
theorem cur_set {w W : World} {p : Nat} {a t s : Value} (h : Var3 w p a t s) (hb : Below w.heap.size w W) (t' s' : Value) (k : Nat) :
    Var3 (((W.setCell ⟨p, 1, none⟩ t').setCell ⟨p, 2, none⟩ s').drewN k) p a t' s' ∧ Drawn w (((W.setCell ⟨p, 1, none⟩ t').setCell ⟨p, 2, none⟩ s').drewN k) p := by
  have h1 := ((h.below hb).set1 t').set2 s'
  have h2 : Drawn w ((W.setCell ⟨p, 1, none⟩ t').setCell ⟨p, 2, none⟩ s') p :=
    grown_trans (below_grown hb (Nat.le_refl _) _) (grown_trans (grown_set W ⟨p, 1, none⟩ t') (grown_set _ ⟨p, 2, none⟩ s'))
  exact ⟨h1.below (Joins.below_draws _ _ _), h2.below (Joins.below_draws _ _ _)⟩
theorem cur_done {w W : World} {p L n cap : Nat} {a : Option Addr} {t : Nat} {t0 s0 s' : Value} (h : Var3 w p (.slice a n cap) t0 s0) (hL : (t : Int) ≤ (L : Int)) (hn : n ≤ 1048576) (hR : RdB w a n) (hne : 0 < n → ∀ b off, a = some ⟨b, off, none⟩ → b < p) (hb : Below w.heap.size w W) {x : Int} (hs' : s' = .int .u64 x) (k : Nat) :
    Cur (((W.setCell ⟨p, 1, none⟩ (.int .i64 ((t : Int) + 1))).setCell ⟨p, 2, none⟩ s').drewN k) p (L+1) ∧ Drawn w (((W.setCell ⟨p, 1, none⟩ (.int .i64 ((t : Int) + 1))).setCell ⟨p, 2, none⟩ s').drewN k) p := by
  subst hs'
  have ⟨h1, h2⟩ := cur_set h hb (.int .i64 ((t : Int) + 1)) (.int .u64 x) k
  exact ⟨⟨a, n, cap, (t : Int) + 1, x, h1, by omega, by omega, hn, hR.kept h2 (fun h b off e => by have := hne h b off e; omega), hne⟩, h2⟩

set_option maxRecDepth 100000 in
theorem next_any (p L : Nat) (w : World) (h : Cur w p L) (hL : L ≤ 1000000000) :
    Calls Try.prog 141 #[.pointer (some ⟨p, 0, none⟩)] w fun e w' => ∃ r : Int, e = .returned (.int .i64 r) ∧ 0 ≤ r ∧ r ≤ 255 ∧ Cur w' p (L+1) ∧ Drawn w w' p := by
  obtain ⟨a, n, cap, t, s, hV, ht0, htL, hn, hR, hne⟩ := h.ex
  have ⟨⟨zV, cV, dV, eV⟩, fV, gV, kV⟩ := hV
  by_cases hlt : t < (n : Int)
  · obtain ⟨b, off, rfl, hbl, x, hc, hx0, hx1⟩ := hR.cell t.toNat (by omega)
    obtain ⟨t, rfl⟩ := Int.eq_ofNat_of_zero_le ht0
    rw [Int.toNat_natCast] at hc
    have hle : ((t : Int) + 1 ≤ (n : Int)) := by omega
    have hbp : b ≠ p := by have := hne (by omega) b off rfl; omega
    have HV := Lib.hid hV
    have HR := Lib.hid hR
    have HNE := Lib.hid hne
    go_enter Try.func141, Try.ntmps141
    clear hV hR hne
    go_wp2_with fail
    go_quiet (fail)
    go_wp2_with fail
    go_quiet (fail)
    go_wp2_with fail
    go_quiet (fail)
    go_wp2_with fail
    refine bodyPost_ret (v := .int .i64 x) (by simp [results, Try.results141, go_sem]) rfl ?_
    refine ⟨x, rfl, hx0, hx1, ?_⟩
    exact cur_done HV.out htL hn HR.out HNE.out (by first | exact Joins.below_draws _ _ _ | exact (Joins.below_draws _ _ _).trans ((Joins.below_draws _ _ _).mono (by simp))) rfl _
  · obtain ⟨t, rfl⟩ := Int.eq_ofNat_of_zero_le ht0
    have hle : ¬ ((t : Int) + 1 ≤ (n : Int)) := by omega
    have HV := Lib.hid hV
    have HR := Lib.hid hR
    have HNE := Lib.hid hne
    go_enter Try.func141, Try.ntmps141
    clear hV hR hne
    go_wp2_with fail
    go_quiet (fail)
    go_wp2_with fail
    go_quiet (fail)
    go_wp2_with fail
    obtain ⟨r, hr, er⟩ := and255 (IntKind.u64.wrap (IntKind.u64.wrap (IntKind.u64.wrap (s * 6364136223846793005)) + 1442695040888963407) / 1099511627776)
    rw [er]
    have e2 : wrap64 (r : Int) = (r : Int) := IntWalk.wrap64_in _ ⟨by omega, by omega⟩
    rw [e2]
    refine bodyPost_ret (v := .int .i64 (r : Int)) (by simp [results, Try.results141, go_sem]) rfl ?_
    refine ⟨r, rfl, by omega, by omega, ?_⟩
    exact cur_done HV.out htL hn HR.out HNE.out (by first | exact Joins.below_draws _ _ _ | exact (Joins.below_draws _ _ _).trans ((Joins.below_draws _ _ _).mono (by simp))) rfl _

set_option maxRecDepth 100000 in
theorem pick_any (p L : Nat) (n : Int) (w : World) (h : Cur w p L) (hL : L ≤ 900000000) (hn : n ≤ 4611686018427387904) :
    Calls Try.prog 75 #[.pointer (some ⟨p, 0, none⟩), .int .i64 n] w fun e w' => ∃ r : Int, e = .returned (.int .i64 r) ∧ 0 ≤ r ∧ (r < n ∨ r = 0) ∧ Cur w' p (L+2) ∧ Drawn w w' p := by
  by_cases h1 : n ≤ 1
  · go_enter Try.func75, Try.ntmps75
    go_wp2_with fail
    go_ret
    exact ⟨0, rfl, by omega, .inr rfl, h.mono (by omega), Drawn.refl _ _⟩
  · by_cases h2 : 200 < n
    · have H := Lib.hid h
      clear h
      go_enter Try.func75, Try.ntmps75
      go_wp2_with fail
      refine (next_any p L _ H.out (by omega)).mono ?_
      rintro e w1 ⟨r, rfl, hr0, hr1, hc1, hd1⟩
      have HC1 := Lib.hid hc1
      have HD1 := Lib.hid hd1
      clear hc1 hd1
      go_wp2_with fail
      refine (next_any p (L+1) _ HC1.out (by omega)).mono ?_
      rintro e w2 ⟨q, rfl, hq0, hq1, hc2, hd2⟩
      have HC2 := Lib.hid hc2
      have HD2 := Lib.hid hd2
      clear hc2 hd2
      go_wp2_with fail
      go_ret
      refine ⟨_, rfl, Int.emod_nonneg _ (by omega), .inl (Int.emod_lt_of_pos _ (by omega)), HC2.out, HD1.out.trans HD2.out⟩
    · have H := Lib.hid h
      clear h
      go_enter Try.func75, Try.ntmps75
      go_wp2_with fail
      refine (next_any p L _ H.out (by omega)).mono ?_
      rintro e w1 ⟨r, rfl, hr0, hr1, hc1, hd1⟩
      have HC1 := Lib.hid hc1
      have HD1 := Lib.hid hd1
      clear hc1 hd1
      go_wp2_with fail
      go_ret
      refine ⟨_, rfl, Int.emod_nonneg _ (by omega), .inl (Int.emod_lt_of_pos _ (by omega)), HC1.out.mono (by omega), HD1.out⟩

/-- a choice between two -/
def OneB (w : World) (p L : Nat) (e : Ending) (w' : World) : Prop := (e = .returned (.bool true) ∨ e = .returned (.bool false)) ∧ Cur w' p L ∧ Drawn w w' p
theorem one_any (p L : Nat) (n : Int) (w : World) (h : Cur w p L) (hL : L ≤ 900000000) (hn : n ≤ 4611686018427387904) :
    Calls Try.prog 70 #[.pointer (some ⟨p, 0, none⟩), .int .i64 n] w (OneB w p (L+2)) := by
  have H := Lib.hid h
  clear h
  go_enter Try.func70, Try.ntmps70
  go_wp2_with fail
  refine (pick_any p L n _ H.out hL hn).mono ?_
  rintro e w1 ⟨r, rfl, hr0, hr1, hc1, hd1⟩
  have HC1 := Lib.hid hc1
  have HD1 := Lib.hid hd1
  clear hc1 hd1
  cases hz : (r == 0)
  · go_wp2_with fail
    go_ret
    exact ⟨.inr rfl, HC1.out, HD1.out⟩
  · go_wp2_with fail
    go_ret
    exact ⟨.inl rfl, HC1.out, HD1.out⟩
theorem oneB_ex {e : Ending} (h : e = .returned (.bool true) ∨ e = .returned (.bool false)) : ∃ b, e = .returned (.bool b) := h.elim (fun h => ⟨true, h⟩) (fun h => ⟨false, h⟩)

theorem Rd.drawn {w w' : World} {p : Nat} {a : Option Addr} {xs : List Int} (h : Rd w a xs) (hd : Drawn w w' p) (hne : ∀ b off, a = some ⟨b, off, none⟩ → b ≠ p) : Rd w' a xs :=
  ⟨h.len, fun k hk => by
    obtain ⟨b, off, e, hl, hc⟩ := h.cell k hk
    exact ⟨b, off, e, Nat.lt_of_lt_of_le hl hd.size, World.grownBy.cell hd hc (by have := hne b off e; simp; omega)⟩⟩
theorem among_any (p L : Nat) (a : Option Addr) (xs : List Int) (n cap : Nat) (w : World) (h : Cur w p L) (hL : L ≤ 900000000) (hx : Rd w a xs) (hl : xs.length = n) (h0 : 0 < n) (h1 : n ≤ 1000) (hne : ∀ b off, a = some ⟨b, off, none⟩ → b ≠ p) :
    Calls Try.prog 135 #[.pointer (some ⟨p, 0, none⟩), .slice a n cap] w fun e w' => ∃ k, k < n ∧ e = .returned (.int .i64 (nth xs k)) ∧ Cur w' p (L+2) ∧ Drawn w w' p := by
  have H := Lib.hid h
  have HX := Lib.hid hx
  have HNE := Lib.hid hne
  have HL := Lib.hid hl
  clear h hx hne hl
  go_enter Try.func135, Try.ntmps135
  go_wp2_with fail
  refine (pick_any p L (n : Int) _ H.out hL (by omega)).mono ?_
  rintro e w1 ⟨r, rfl, hr0, hr1, hc1, hd1⟩
  have HC1 := Lib.hid hc1
  have HD1 := Lib.hid hd1
  clear hc1 hd1
  obtain ⟨k, rfl⟩ := Int.eq_ofNat_of_zero_le hr0
  have hk : k < n := by omega
  obtain ⟨b, off, rfl, hbl, hc⟩ := (HX.out.drawn HD1.out HNE.out).cell k (by rw [HL.out]; exact hk)
  have k1 : (k : Int) < (n : Int) := by omega
  clear hr0 hr1
  go_wp2_with fail
  go_ret
  exact ⟨k, hk, rfl, HC1.out, HD1.out⟩

theorem Var2.drawn {w w' : World} {p b : Nat} {u v : Value} (h : Var2 w b u v) (hd : Drawn w w' p) (hne : b ≠ p) : Var2 w' b u v := h.kept hd (by simpa using hne)
theorem OwnI.drawn {w w' : World} {p B : Nat} {v : Value} {xs : List Int} (h : OwnI w B v xs) (hd : Drawn w w' p) (hp : p < B) : OwnI w' B v xs :=
  h.kept hd (by
    cases e : v.ownBlock with
    | none => exact .inl rfl
    | some c => exact .inr (by have := (h.lt c e).1; simp; omega))
theorem Drawn.grown {w w1 w2 : World} {p : Nat} {v : Value} (h : Drawn w w1 p) (hg : w1.grownBy w2 v.ownBlock) (hB : ∀ c, v.ownBlock = some c → w.heap.size ≤ c) : Drawn w w2 p :=
  ⟨hg.os.trans h.os, hg.tape.trans h.tape, hg.output.trans h.output, Nat.le_trans h.size hg.size, fun k hk hn => (hg.block k (by have := h.size; omega) (fun e => by have := hB k e.symm; omega)).trans (h.block k hk hn)⟩
theorem Drawn.set {w w1 : World} {p : Nat} (h : Drawn w w1 p) (a : Addr) (u : Value) (ha : w.heap.size ≤ a.block) : Drawn w (w1.setCell a u) p :=
  ⟨h.os, h.tape, h.output, by simpa using h.size, fun k hk hn => (Below.heap_setCell w1 a u k (by omega)).trans (h.block k hk hn)⟩
/-- a length that is kept in a block's second cell -/
def lenAt (w : World) (b : Nat) : Nat := match w.cell? ⟨b, 1, none⟩ with | some (.slice _ k _) => k | _ => 0
theorem lenAt_of {w : World} {b k c : Nat} {u : Value} {a : Option Addr} (h : Var2 w b u (.slice a k c)) : lenAt w b = k := by simp [lenAt, h.1.2.2]
set_option maxRecDepth 100000 in
theorem relation_any (p L m : Nat) (w : World) (h : Cur w p L) (hL : L ≤ 800000000) (hm : m ≤ 10) :
    Calls Try.prog 134 #[.pointer (some ⟨p, 0, none⟩), .int .i64 (m : Int)] w fun e w' => ∃ a cap xs, e = .returned (.agg #[.int .i64 (xs.length : Int), .slice a xs.length cap]) ∧ OwnI w' w.heap.size (.slice a xs.length cap) xs ∧ xs.length ≤ m ∧ (∀ k, k < xs.length → 0 ≤ nth xs k ∧ nth xs k < 1024) ∧ Cur w' p (L + 300) ∧ Drawn w w' p := by
  have hpw := h.lt
  have ha : Below w.heap.size w (w.alloc (.cells #[.int .i64 0, .slice none 0 0] 26)) := (by repeat (first | exact Below.refl _ _ | assumption | refine Below.alloc ?_ (by first | exact Nat.le_refl _ | (simp only [World.size_alloc, World.size_setCell, World.size_drew]; omega) | omega) _ | refine Below.setCell ?_ (by first | exact Nat.le_refl _ | (simp only [World.size_alloc, World.size_setCell, World.size_drew]; omega) | omega) _ | refine Below.drew ?_))
  have H := Lib.hid (h.below ha)
  have HR := Lib.hid (Var2.new w (.int .i64 0) (.slice none 0 0) 26)
  clear h
  go_enter Try.func134, Try.ntmps134
  go_wp2_with fail
  refine (pick_any p L ((m : Int) + 1) _ H.out (by omega) (by omega)).mono ?_
  rintro e w1 ⟨r, rfl, hr0, hr1, hc1, hd1⟩
  obtain ⟨n, rfl⟩ := Int.eq_ofNat_of_zero_le hr0
  have hn : n ≤ m := by omega
  have hs1 : w.heap.size + 1 ≤ w1.heap.size := by have := hd1.size; simpa using this
  have HC1 := Lib.hid hc1
  have HD1 := Lib.hid hd1
  clear hc1 hd1 hr0 hr1
  go_wp2_with fail
  have HB1 := Lib.hid (Var2.new w1 (.int .i64 (n : Int)) (.slice none 0 0) 26)
  have HR1 := Lib.hid ((HR.out.drawn HD1.out (by omega)).alloc (.cells #[.int .i64 (n : Int), .slice none 0 0] 26))
  have HC2 := Lib.hid (HC1.out.below ((Below.refl w1.heap.size w1).alloc (Nat.le_refl _) (.cells #[.int .i64 (n : Int), .slice none 0 0] 26)))
  go_loopw [6, 7] (fun _ _ wr => ∃ (a : Option Addr) (cap : Nat) (xs : List Int), xs.length ≤ n ∧ Var2 wr w1.heap.size (.int .i64 (n : Int)) (.slice a xs.length cap) ∧ OwnI wr (w1.heap.size + 1) (.slice a xs.length cap) xs ∧ (∀ k, k < xs.length → 0 ≤ nth xs k ∧ nth xs k < 1024) ∧ Cur wr p (L + 2 + 20 * xs.length) ∧ Var2 wr w.heap.size (.int .i64 0) (.slice none 0 0) ∧ Drawn w wr p) (fun _ _ wr => n - lenAt wr w1.heap.size)
  case atStart => exact ⟨none, 0, [], by simp, HB1.out, OwnI.nil _ _, fun k hk => by simp at hk, HC2.out.mono (by simp), HR1.out, HD1.out.of_alloc.alloc _⟩
  case round =>
    obtain ⟨a, cap, xs, hk, hV, ho, hx, hc, hR, hd⟩ := hrel
    have hds := hd.size
    have ⟨⟨zV, cV, dV⟩, fV, gV⟩ := hV
    by_cases hlt : xs.length < n
    · have k1 : (xs.length : Int) < (n : Int) := by omega
      have HV := Lib.hid hV
      have HO := Lib.hid ho
      have HX := Lib.hid hx
      have HC := Lib.hid hc
      have HR := Lib.hid hR
      have HD := Lib.hid hd
      obtain ⟨W1, hW1⟩ : ∃ x : World, x = wr := ⟨_, rfl⟩
      subst hW1
      clear hV ho hx hc hR hd
      go_wp2_with fail
      go_loopw [6, 7] (fun s j wr => ∃ (k S : Nat), k ≤ n ∧ j = .int .i64 k ∧ s = .int .i64 (S : Int) ∧ S < 2 ^ k ∧ Cur wr p (L + 2 + 20 * xs.length + 2 * k) ∧ Drawn W1 wr p) (fun _ j _ => n - (intOf j).toNat)
      case atStart => exact ⟨0, 0, by omega, rfl, rfl, by simp, HC.out, Drawn.refl _ _⟩
      case round =>
        obtain ⟨k, S, hk2, rfl, rfl, hS, hc2, hd2⟩ := hrel
        have hds2 := hd2.size
        have hV2 := HV.out.drawn hd2 (by omega)
        have ⟨⟨zV2, cV2, dV2⟩, fV2, gV2⟩ := hV2
        by_cases hlt2 : k < n
        · have k2 : (k : Int) < (n : Int) := by omega
          have HC2 := Lib.hid hc2
          have HD2 := Lib.hid hd2
          clear hc2 hd2 hV2
          go_wp2_with fail
          refine (one_any p (L + 2 + 20 * xs.length + 2 * k) 4 _ HC2.out (by omega) (by omega)).mono ?_
          rintro e w3 ⟨he, hc3, hd3⟩
          have HC3 := Lib.hid hc3
          have HD3 := Lib.hid (HD2.out.trans hd3)
          have hsb : S < 4611686018427387904 := by
            have : 2 ^ k ≤ 2 ^ 10 := Nat.pow_le_pow_right (by omega) (by omega)
            omega
          have hor := Lib.hid (or_bit (b := S) (k := k) hsb (by omega))
          have h2k : (2 : Nat) ^ k < 2 ^ (k + 1) := two_lt (by omega)
          have hS1 : S ||| 2 ^ k < 2 ^ (k + 1) := or_lt (by omega) h2k
          have hS0 : S < 2 ^ (k + 1) := by omega
          clear hc3 hd3
          rcases he with rfl | rfl
          · go_wp2_with fail
            go_roundw
            case rel => exact ⟨k + 1, S ||| 2 ^ k, by omega, by go_num, val_int hor.out, hS1, HC3.out.mono (by omega), HD3.out⟩
            case measure => simp [intOf]; omega
          · go_wp2_with fail
            go_roundw
            case rel => exact ⟨k + 1, S, by omega, by go_num, rfl, hS0, HC3.out.mono (by omega), HD3.out⟩
            case measure => simp [intOf]; omega
        · obtain rfl : k = n := by omega
          have HO2 := Lib.hid (HO.out.drawn hd2 (by omega))
          have HC2 := Lib.hid hc2
          have HD2 := Lib.hid hd2
          have HV2 := Lib.hid hV2
          clear hc2 hd2 hV2
          have hlo := HO2.out.lt
          have HLO := Lib.hid hlo
          have hWs : w1.heap.size + 1 ≤ wr.heap.size := by omega
          clear hlo
          go_wp2_with (at_builtin; refine push_at (v := .slice a xs.length cap) (z := (S : Int)) rfl _ _ rfl rfl HO2.out rfl (by omega) hWs ?_; intro v7 w7 o7 hg7 hat7; revert hat7)
          intro hat7
          have hV7 := HV2.out.kept hg7 (ne_own (fun c e => by have := (HLO.out c e).1; omega))
          have ⟨⟨zV7, cV7, dV7⟩, fV7, gV7⟩ := hV7
          obtain ⟨av7, cv7, ev7⟩ := o7.form
          subst ev7
          rw [show (xs ++ [(S : Int)]).length = xs.length + 1 by simp] at o7 ⊢
          have hc7 := HC2.out.kept hg7 (fun g e => by have := (HLO.out g e).1; omega)
          have hR7 := ((HR.out.drawn HD2.out (by omega)).kept hg7 (ne_own (fun c e => by have := (HLO.out c e).1; omega)))
          have hd7 := (HD.out.trans HD2.out).grown hg7 (fun c e => by have := (HLO.out c e).1; omega)
          have H7 := Lib.hid (And.intro (hV7.set1 (.slice av7 (xs.length + 1) cv7)) (And.intro (o7.setBelow (p := ⟨w1.heap.size, 1, none⟩) (show w1.heap.size < w1.heap.size + 1 by omega) (.slice av7 (xs.length + 1) cv7)) (And.intro (hc7.set ⟨w1.heap.size, 1, none⟩ (.slice av7 (xs.length + 1) cv7) (show p < w1.heap.size by omega)) (And.intro (hR7.other (p := ⟨w1.heap.size, 1, none⟩) (.slice av7 (xs.length + 1) cv7) (show w.heap.size ≠ w1.heap.size by omega)) (hd7.set ⟨w1.heap.size, 1, none⟩ (.slice av7 (xs.length + 1) cv7) (show w.heap.size ≤ w1.heap.size by omega))))))
          clear o7 hg7 hat7 hV7 hc7 hR7 hd7
          go_wp2_with fail
          have HL9 : Hid ((xs ++ [(S : Int)]).length = xs.length + 1) := by simp [Hid]
          have HX9 : Hid (∀ k, k < (xs ++ [(S : Int)]).length → 0 ≤ nth (xs ++ [(S : Int)]) k ∧ nth (xs ++ [(S : Int)]) k < 1024) := fun j hj => by
            by_cases e : j < xs.length
            · rw [nth_snoc_lt e]; exact HX.out j e
            · obtain rfl : j = xs.length := by simp at hj; omega
              rw [nth_snoc_end]
              have : 2 ^ k ≤ 2 ^ 10 := Nat.pow_le_pow_right (by omega) (by omega)
              omega
          go_roundw
          case rel => exact ⟨av7, cv7, xs ++ [(S : Int)], by rw [HL9.out]; omega, by rw [HL9.out]; exact H7.out.1, by rw [HL9.out]; exact H7.out.2.1, HX9.out, H7.out.2.2.1.mono (by rw [HL9.out]; omega), H7.out.2.2.2.1, H7.out.2.2.2.2⟩
          case measure => rw [lenAt_of H7.out.1, lenAt_of HV.out]; omega
    · obtain rfl : xs.length = n := by omega
      have ⟨⟨zR, cR, dR⟩, fR, gR⟩ := hR
      have HO := Lib.hid ho
      have HR := Lib.hid hR
      have HX := Lib.hid hx
      have HC := Lib.hid hc
      have HD := Lib.hid hd
      clear hV ho hx hc hR hd
      go_wp2_with fail
      have R3 := HR.out.set (.int .i64 (xs.length : Int)) (.slice a xs.length cap)
      refine bodyPost_ret (v := .agg #[.int .i64 (xs.length : Int), .slice a xs.length cap]) (by have ⟨⟨_, q1, q2⟩, _, _⟩ := R3; simp [results, Try.results134, go_sem, q1, q2]) rfl ?_
      refine ⟨a, cap, xs, rfl, ((HO.out.setBelow (show w.heap.size < w1.heap.size + 1 by omega) _).setBelow (show w.heap.size < w1.heap.size + 1 by omega) _).mono (by omega), hn, HX.out, ?_, ?_⟩
      · exact ((HC.out.set _ _ (show p < w.heap.size by omega)).set _ _ (show p < w.heap.size by omega)).mono (by omega)
      · exact (HD.out.set _ _ (Nat.le_refl _)).set _ _ (Nat.le_refl _)

theorem asAscents_q (a : Option Addr) (xs : List Int) (n cap : Nat) (w : World) (hx : Rd w a xs) (hn : n ≤ xs.length) :
    Calls Try.prog 192 #[.slice a n cap] w fun e w' => e = .returned (.int .i64 (ascTo xs n : Nat)) ∧ ∃ m, w' = w.drewN m := by
  have hlen := hx.len
  have HA : Hid (∀ k, ascTo xs k ≤ k - 1) := ascTo_le xs
  go_enter Try.func192, Try.ntmps192
  go_wp2_with fail
  go_loopw [3, 4] (fun s i wr => ∃ k : Nat, 1 ≤ k ∧ k ≤ max 1 n ∧ i = .int .i64 k ∧ s = .int .i64 (ascTo xs k : Nat) ∧ ∃ m, wr = w.drewN m) (fun _ i _ => n + 1 - (intOf i).toNat)
  case atStart => exact ⟨1, by omega, by omega, rfl, rfl, 0, rfl⟩
  case round =>
    obtain ⟨k, hk1, hk, rfl, rfl, m0, rfl⟩ := hrel
    by_cases hlt : k < n
    · obtain ⟨b, off, rfl, hbl, hc⟩ := hx.cell k (by omega)
      obtain ⟨b', off', e', hbl', hc'⟩ := hx.cell (k-1) (by omega)
      simp only [Option.some.injEq, Addr.mk.injEq, and_true] at e'
      obtain ⟨rfl, rfl⟩ := e'
      have hak := HA.out k
      have hcast : IntKind.i64.wrap ((k : Int) - 1) = ((k - 1 : Nat) : Int) := by rw [i64_wrap, IntWalk.wrap64_in _ ⟨by omega, by omega⟩]; omega
      cases hr : riseB xs k
      · have H1 := Lib.hid (ascTo_no hr)
        have hge : ¬ nth xs (k-1) < nth xs k := by
          intro h; rw [riseB_iff.2 ⟨by omega, h⟩] at hr; cases hr
        clear hr
        go_wp2_with fail
        go_quiet (fail)
        go_wp2_with fail
        go_roundw
        case rel => exact ⟨k + 1, by omega, by omega, by go_num, by rw [H1.out], _, rfl⟩
        case measure => simp [intOf]; omega
      · have H1 := Lib.hid (ascTo_yes hr)
        have hge : nth xs (k-1) < nth xs k := (riseB_iff.1 hr).2
        clear hr
        go_wp2_with fail
        go_quiet (fail)
        go_wp2_with fail
        go_roundw
        case rel => exact ⟨k + 1, by omega, by omega, by go_num, by rw [H1.out]; go_num, _, rfl⟩
        case measure => simp [intOf]; omega
    · have HE : Hid (ascTo xs k = ascTo xs n) := by
        by_cases h0 : n = 0
        · obtain rfl : k = 1 := by omega
          rw [Hid, h0]; rfl
        · obtain rfl : k = n := by omega
          rfl
      go_wp2_with fail
      go_ret
      exact ⟨ret_int (by rw [HE.out]), m0, rfl⟩
theorem asAscents_any (a : Option Addr) (xs : List Int) (n cap : Nat) (w : World) (hx : Rd w a xs) (hn : n ≤ xs.length) :
    Calls Try.prog 192 #[.slice a n cap] w fun e w' => e = .returned (.int .i64 (ascTo xs n : Nat)) ∧ Below w.heap.size w w' :=
  (asAscents_q a xs n cap w hx hn).mono (fun e w' ⟨h1, m, h2⟩ => ⟨h1, by rw [h2]; exact Joins.below_draws _ _ _⟩)

theorem asBound_q (a : Option Addr) (xs : List Int) (n cap : Nat) (w : World) (hx : Rd w a xs) (hn : n ≤ xs.length) :
    Calls Try.prog 164 #[.slice a n cap] w fun e w' => e = .returned (.int .i64 (bndTo xs n)) ∧ ∃ m, w' = w.drewN m := by
  have hlen := hx.len
  by_cases h0 : n = 0
  · subst h0
    go_enter Try.func164, Try.ntmps164
    go_wp2_with fail
    go_ret
    exact ⟨rfl, 0, rfl⟩
  · have H1 : Hid (bndTo xs n = (ascTo xs n : Int) + 1) := bndTo_pos xs (by omega)
    have hal := ascTo_le xs n
    go_enter Try.func164, Try.ntmps164
    go_wp2_with fail
    refine (asAscents_q _ xs _ _ _ hx hn).mono ?_
    rintro e w1 ⟨rfl, m, rfl⟩
    go_wp2_with fail
    go_ret
    exact ⟨ret_int (by rw [H1.out]), m, rfl⟩
theorem asBound_any (a : Option Addr) (xs : List Int) (n cap : Nat) (w : World) (hx : Rd w a xs) (hn : n ≤ xs.length) :
    Calls Try.prog 164 #[.slice a n cap] w fun e w' => e = .returned (.int .i64 (bndTo xs n)) ∧ Below w.heap.size w w' :=
  (asBound_q a xs n cap w hx hn).mono (fun e w' ⟨h1, m, h2⟩ => ⟨h1, by rw [h2]; exact Joins.below_draws _ _ _⟩)
theorem asBound_is {a : Option Addr} {xs : List Int} {n cap : Nat} {w : World} (hx : Rd w a xs) (hn : n ≤ xs.length) {b : Int} (hb : bndTo xs n = b) (m : Nat) :
    Calls Try.prog 164 #[.slice a n cap] (w.drewN m) fun e w' => e = .returned (.int .i64 b) ∧ ∃ k, w' = w.drewN k :=
  Calls.quiet_of ((asBound_q a xs n cap (w.drewN m) (hx.below (Joins.below_draws _ _ _)) hn).mono (fun e w' hh => ⟨by rw [← hb]; exact hh.1, hh.2⟩))

/-- a list of small numbers that a law draws -/
def DrawnI (w : World) (e : Ending) (w' : World) : Prop :=
  ∃ (a : Option Addr) (cap : Nat) (xs : List Int), e = .returned (.slice a xs.length cap) ∧ OwnI w' w.heap.size (.slice a xs.length cap) xs ∧ xs.length ≤ 16 ∧ (∀ k, k < xs.length → -1 ≤ nth xs k ∧ nth xs k ≤ 1024) ∧ Below w.heap.size w w'
def AscI (w : World) (p L : Nat) (e : Ending) (w' : World) : Prop :=
  ∃ (a : Option Addr) (cap : Nat) (xs : List Int), e = .returned (.slice a xs.length cap) ∧ OwnI w' w.heap.size (.slice a xs.length cap) xs ∧ xs.length ≤ 14 ∧ (∀ k, k < xs.length → -1 ≤ nth xs k ∧ nth xs k ≤ 1024) ∧ Cur w' p (L + 100) ∧ Drawn w w' p
theorem small_snoc {xs : List Int} {x : Int} (h : ∀ k, k < xs.length → -1 ≤ nth xs k ∧ nth xs k ≤ 1024) (h0 : -1 ≤ x) (h1 : x ≤ 1024) : ∀ k, k < (xs ++ [x]).length → -1 ≤ nth (xs ++ [x]) k ∧ nth (xs ++ [x]) k ≤ 1024 := fun j hj => by
  have hl : (xs ++ [x]).length = xs.length + 1 := by simp
  by_cases e : j < xs.length
  · rw [nth_snoc_lt e]; exact h j e
  · obtain rfl : j = xs.length := by omega
    rw [nth_snoc_end]; omega
theorem small_set {xs : List Int} {x : Int} {i : Nat} (hi : i < xs.length) (h : ∀ k, k < xs.length → -1 ≤ nth xs k ∧ nth xs k ≤ 1024) (h0 : -1 ≤ x) (h1 : x ≤ 1024) : ∀ k, k < (xs.set i x).length → -1 ≤ nth (xs.set i x) k ∧ nth (xs.set i x) k ≤ 1024 := fun j hj => by
  rw [nth_set hi]
  split
  · omega
  · exact h j (by simpa using hj)
def lenV : Value → Nat
  | .slice _ n _ => n
  | _ => 0
set_option maxRecDepth 100000 in
set_option maxHeartbeats 2000000 in
theorem ascent_any (p L m : Nat) (w : World) (h : Cur w p L) (hL : L ≤ 600000000) (hm : m ≤ 12) :
    Calls Try.prog 108 #[.pointer (some ⟨p, 0, none⟩), .int .i64 (m : Int)] w (AscI w p L) := by
  have hpw := h.lt
  have H := Lib.hid h
  clear h
  go_enter Try.func108, Try.ntmps108
  go_wp2_with fail
  refine (pick_any p L ((m : Int) + 1) _ H.out (by omega) (by omega)).mono ?_
  rintro e w1 ⟨r, rfl, hr0, hr1, hc1, hd1⟩
  obtain ⟨n, rfl⟩ := Int.eq_ofNat_of_zero_le hr0
  have hn13 : n ≤ 13 := by omega
  have HC1 := Lib.hid hc1
  have HD1 := Lib.hid hd1
  clear hc1 hd1 hr0 hr1
  go_wp2_with fail
  refine (one_any p (L + 2) 10 _ HC1.out (by omega) (by omega)).mono ?_
  rintro e w2 ⟨he, hc2, hd2⟩
  have HC2 := Lib.hid (hc2.mono (show L + 2 + 2 ≤ L + 6 by omega))
  have HD2 := Lib.hid (HD1.out.trans hd2)
  clear hc2 hd2 HC1 HD1
  rcases he with rfl | rfl
  case' inl =>
    go_wp2_with fail
    refine (pick_any p (L + 6) 2 _ HC2.out (by omega) (by omega)).mono ?_
    rintro e w3 ⟨r, rfl, hr0, hr1, hc3, hd3⟩
    obtain ⟨r0, rfl⟩ := Int.eq_ofNat_of_zero_le hr0
    obtain ⟨n, hn⟩ : ∃ n : Nat, 12 + (r0 : Int) = (n : Int) := ⟨12 + r0, by omega⟩
    have hn13 : n ≤ 13 := by omega
    have HC := Lib.hid (hc3.mono (show L + 6 + 2 ≤ L + 8 by omega))
    have HD := Lib.hid (HD2.out.trans hd3)
    have HN := Lib.hid hn
    clear hc3 hd3 hr0 hr1 HC2 HD2 hn
    go_wp2_with fail
    rw [HN.out, show wrap64 (n : Int) = n from by rw [← i64_wrap]; exact wrap64_small _ (by omega) (by omega)]
    clear HN
    rename World => W
  case' inr =>
    have HC := Lib.hid (HC2.out.mono (show L + 6 ≤ L + 8 by omega))
    have HD := HD2
    clear HC2 HD2
    go_wp2_with fail
    rename World => W
  all_goals
    go_loopw [6] (fun v wr => ∃ (k : Nat) (a : Option Addr) (cap : Nat) (xs : List Int), v = .slice a k cap ∧ xs.length = k ∧ k ≤ 13 ∧ OwnI wr w.heap.size (.slice a k cap) xs ∧ (∀ k, k < xs.length → -1 ≤ nth xs k ∧ nth xs k ≤ 1024) ∧ Cur wr p (L + 8 + 4 * k) ∧ Drawn w wr p) (fun v _ => n - lenV v)
    case atStart => exact ⟨0, none, 0, [], rfl, rfl, by omega, OwnI.nil _ _, fun k hk => by simp at hk, HC.out, HD.out⟩
    case round =>
      obtain ⟨k, a, cap, xs, rfl, hl, hk, ho, hx, hc, hd⟩ := hrel
      have HX := Lib.hid hx
      have HO := Lib.hid ho
      have HCu := Lib.hid hc
      have HDr := Lib.hid hd
      clear hx ho hc hd HC HD
      subst hl
      by_cases hlt : xs.length < n
      · have k1 : (xs.length : Int) < (n : Int) := by omega
        go_wp2_with fail
        refine (asBound_any a xs xs.length cap _ HO.out.rd (Nat.le_refl _)).mono ?_
        rintro e w4 ⟨rfl, hb4⟩
        have hbb := bndTo_le xs xs.length
        generalize bndTo xs xs.length = b at hbb
        have HO4 := Lib.hid (HO.out.below hb4 (Nat.le_refl _))
        have HC4 := Lib.hid (HCu.out.below hb4)
        have HD4 := Lib.hid (HDr.out.below hb4)
        clear hb4
        go_wp2_with fail
        refine (pick_any p (L + 8 + 4 * xs.length) (b + 1) _ HC4.out (by omega) (by omega)).mono ?_
        rintro e w5 ⟨x, rfl, hx0, hx1, hc5, hd5⟩
        have HO5 := Lib.hid (HO4.out.drawn hd5 hpw)
        have HC5 := Lib.hid hc5
        have HD5 := Lib.hid (HD4.out.trans hd5)
        clear hc5 hd5
        go_wp2_with fail
        refine (one_any p (L + 8 + 4 * xs.length + 2) 3 _ HC5.out (by omega) (by omega)).mono ?_
        rintro e w6 ⟨he, hc6, hd6⟩
        have HO6 := Lib.hid (HO5.out.drawn hd6 hpw)
        have HC6 := Lib.hid (hc6.mono (show L + 8 + 4 * xs.length + 2 + 2 ≤ L + 8 + 4 * (xs.length + 1) by omega))
        have HD6 := Lib.hid (HD5.out.trans hd6)
        have hs6 := HD6.out.size
        clear hc6 hd6
        obtain ⟨y, hy, hy0, hy1⟩ : ∃ y : Int, (e = .returned (.bool true) ∧ y = b ∨ e = .returned (.bool false) ∧ y = x) ∧ -1 ≤ y ∧ y ≤ 1024 := by
          rcases he with rfl | rfl
          · exact ⟨b, .inl ⟨rfl, rfl⟩, by omega, by omega⟩
          · exact ⟨x, .inr ⟨rfl, rfl⟩, by omega, by omega⟩
        have HX6 := Lib.hid (small_snoc HX.out hy0 hy1)
        rcases hy with ⟨rfl, rfl⟩ | ⟨rfl, rfl⟩
        all_goals
          go_wp2_with (at_builtin; refine push_at (v := .slice a xs.length cap) (z := y) rfl _ _ rfl rfl HO6.out rfl (by omega) hs6 ?_; intro v7 w7 o7 hg7 hat7; revert hat7)
          intro hat7
          obtain ⟨av7, cv7, ev7⟩ := o7.form
          subst ev7
          have hl7 : (xs ++ [y]).length = xs.length + 1 := by simp
          have hd7 := HD6.out.grown hg7 (fun c e => (HO6.out.lt c e).1)
          have hc7 := HC6.out.kept hg7 (fun g e => by have := (HO6.out.lt g e).1; omega)
          clear hat7 hg7
          go_wp2_with fail
          go_roundw
          case rel => exact ⟨xs.length + 1, av7, cv7, xs ++ [y], by rw [hl7], hl7, by omega, by rw [hl7] at o7; exact o7, HX6.out, hc7, hd7⟩
          case measure => simp [lenV]; omega
      · have k1 : ¬ (xs.length : Int) < (n : Int) := by omega
        have HCu2 := Lib.hid (HCu.out.mono (show L + 8 + 4 * xs.length ≤ L + 60 by omega))
        have hk13 := hk
        clear HCu
        go_wp2_with fail
        refine (pick_any p (L + 60) 14 _ HCu2.out (by omega) (by omega)).mono ?_
        rintro e w4 ⟨r, rfl, hr0, hr1, hc4, hd4⟩
        have HO4 := Lib.hid (HO.out.drawn hd4 hpw)
        have HC4 := Lib.hid hc4
        have HD4 := Lib.hid (HDr.out.trans hd4)
        clear hc4 hd4
        have hs4 := HD4.out.size
        by_cases h0 : r = 0
        · subst h0
          by_cases hl0 : 0 < xs.length
          · have l1 : (0 : Int) < (xs.length : Int) := by omega
            obtain ⟨g, ea, hg0, hg1⟩ := HO4.out.head hl0
            subst ea
            go_wp2_with fail
            refine (pick_any p (L + 62) (xs.length : Int) _ HC4.out (by omega) (by omega)).mono ?_
            rintro e w5 ⟨q, rfl, hq0, hq1, hc5, hd5⟩
            obtain ⟨j, rfl⟩ := Int.eq_ofNat_of_zero_le hq0
            have hj : j < xs.length := by omega
            have HO5 := Lib.hid (HO4.out.drawn hd5 hpw)
            have HC5 := Lib.hid hc5
            have HD5 := Lib.hid (HD4.out.trans hd5)
            clear hc5 hd5
            go_wp2_with fail
            refine (pick_any p (L + 64) 7 _ HC5.out (by omega) (by omega)).mono ?_
            rintro e w6 ⟨z, rfl, hz0, hz1, hc6, hd6⟩
            have HO6 := Lib.hid (HO5.out.drawn hd6 hpw)
            have HD6 := Lib.hid (HD5.out.trans hd6)
            have ho6 := HO6.out
            have ⟨cj, fj⟩ := ho6.at' rfl (i := j) hj
            have j1 : (j : Int) < (xs.length : Int) := by omega
            have HP := Lib.hid ((ho6.put rfl j (z - 1)).1)
            have HC6 := Lib.hid ((hc6.set ⟨g, j, none⟩ (.int .i64 (z - 1)) (show p < g by omega)).mono (show L + 64 + 2 ≤ L + 100 by omega))
            have HD7 := Lib.hid (HD6.out.set ⟨g, j, none⟩ (.int .i64 (z - 1)) hg0)
            have HX6 := Lib.hid (small_set (x := z - 1) hj HX.out (by omega) (by omega))
            have er : IntKind.i64.wrap (z - 1) = z - 1 := wrap64_small _ (by omega) (by omega)
            have HLN : Hid ((xs.set j (z - 1)).length = xs.length) := by simp [Hid]
            clear hc6 hd6 ho6
            go_wp2_with fail
            go_ret
            exact ⟨some ⟨g, 0, none⟩, cap, xs.set j (z - 1), by rw [HLN.out]; rfl, by rw [HLN.out]; exact HP.out, by rw [HLN.out]; omega, HX6.out, HC6.out, HD7.out⟩
          · have l1 : ¬ (0 : Int) < (xs.length : Int) := by omega
            go_wp2_with fail
            go_ret
            exact ⟨a, cap, xs, rfl, HO4.out, by omega, HX.out, HC4.out.mono (by omega), HD4.out⟩
        · have hz0 : (r == 0) = false := by simpa using h0
          by_cases h1 : r = 1
          · subst h1
            go_wp2_with fail
            refine (asBound_any a xs xs.length cap _ HO4.out.rd (Nat.le_refl _)).mono ?_
            rintro e w5 ⟨rfl, hb5⟩
            have hbb := bndTo_le xs xs.length
            generalize bndTo xs xs.length = b at hbb
            have HO5 := Lib.hid (HO4.out.below hb5 (Nat.le_refl _))
            have HC5 := Lib.hid (HC4.out.below hb5)
            have HD5 := Lib.hid (HD4.out.below hb5)
            clear hb5
            go_wp2_with fail
            refine (pick_any p (L + 62) 2 _ HC5.out (by omega) (by omega)).mono ?_
            rintro e w6 ⟨z, rfl, hz0, hz1, hc6, hd6⟩
            have HO6 := Lib.hid (HO5.out.drawn hd6 hpw)
            have HC6 := Lib.hid hc6
            have HD6 := Lib.hid (HD5.out.trans hd6)
            have hs6 := HD6.out.size
            have HX6 := Lib.hid (small_snoc (x := b + z) HX.out (by omega) (by omega))
            have er : IntKind.i64.wrap (b + z) = b + z := wrap64_small _ (by omega) (by omega)
            clear hc6 hd6
            go_wp2_with (at_builtin; refine push_at (v := .slice a xs.length cap) (z := b + z) rfl _ _ rfl rfl HO6.out rfl (by omega) hs6 ?_; intro v7 w7 o7 hg7 hat7; revert hat7)
            intro hat7
            obtain ⟨av7, cv7, ev7⟩ := o7.form
            subst ev7
            have hl7 : (xs ++ [b + z]).length = xs.length + 1 := by simp
            have hd7 := HD6.out.grown hg7 (fun c e => (HO6.out.lt c e).1)
            have hc7 := HC6.out.kept hg7 (fun g e => by have := (HO6.out.lt g e).1; omega)
            clear hat7 hg7
            go_wp2_with fail
            go_ret
            exact ⟨av7, cv7, xs ++ [b + z], rfl, o7, by omega, HX6.out, hc7.mono (by omega), hd7⟩
          · have h11 : (r == 1) = false := by simpa using h1
            go_wp2_with fail
            go_ret
            exact ⟨a, cap, xs, rfl, HO4.out, by omega, HX.out, HC4.out.mono (by omega), HD4.out⟩

theorem l1In_any (n lo hi : Int) (w : World) :
    Calls Try.prog 136 #[.int .i64 n, .int .i64 lo, .int .i64 hi] w fun e w' => e = .returned (.bool (inB n lo hi)) ∧ w = w' := by
  go_enter Try.func136, Try.ntmps136
  go_wp2
  all_goals (go_ret; exact ⟨ret_bool (by simp [inB]; try omega), rfl⟩)
theorem l1In_is {n lo hi : Int} {b : Bool} (h : inB n lo hi = b) (w : World) (m : Nat) :
    Calls Try.prog 136 #[.int .i64 n, .int .i64 lo, .int .i64 hi] (w.drewN m) fun e w' => e = .returned (.bool b) ∧ ∃ k, w' = w.drewN k :=
  Calls.quiet_of_same ((l1In_any n lo hi (w.drewN m)).mono (fun e w' hh => ⟨by rw [← h]; exact hh.1, hh.2.symm⟩))

theorem l1All_any (a : Option Addr) (xs : List Int) (cap : Nat) (lo hi : Int) (w : World) (hx : Rd w a xs) :
    Calls Try.prog 137 #[.slice a xs.length cap, .int .i64 lo, .int .i64 hi] w fun e w' => e = .returned (.bool (allB xs lo hi)) ∧ w = w' := by
  have hlen := hx.len
  go_enter Try.func137, Try.ntmps137
  go_wp2_with fail
  go_loop [11] (fun i => ∃ k : Nat, k ≤ xs.length ∧ i = .int .i64 k ∧ allB (xs.take k) lo hi = true) (fun i => xs.length - (intOf i).toNat)
  case atStart => exact ⟨0, Nat.zero_le _, rfl, rfl⟩
  case round =>
    obtain ⟨k, hk, rfl, hall⟩ := hrel
    by_cases hlt : k < xs.length
    · obtain ⟨b, off, rfl, hbl, hc⟩ := hx.cell k hlt
      cases hin : inB (nth xs k) lo hi
      · have hf := Lib.hid (allB_false hlt hin)
        go_wp2_with (go_at_call 136; refine (l1In_any _ _ _ _).mono ?_; rintro e w' ⟨rfl, rfl⟩)
        go_ret
        exact ⟨ret_bool hf.out.symm, rfl⟩
      · go_wp2_with (go_at_call 136; refine (l1In_any _ _ _ _).mono ?_; rintro e w' ⟨rfl, rfl⟩)
        go_round
        case rel => exact ⟨k + 1, by omega, by go_num, by rw [allB_take _ _ _ _ hlt, hall, hin]; rfl⟩
        case measure => simp [intOf]; omega
    · go_wp2_with fail
      go_ret
      exact ⟨ret_bool (by rw [← hall, List.take_of_length_le (by omega)]), rfl⟩
theorem l1All_is {a : Option Addr} {xs : List Int} {cap : Nat} {lo hi : Int} {b : Bool} {w : World} (hx : Rd w a xs) (h : allB xs lo hi = b) (m : Nat) :
    Calls Try.prog 137 #[.slice a xs.length cap, .int .i64 lo, .int .i64 hi] (w.drewN m) fun e w' => e = .returned (.bool b) ∧ ∃ k, w' = w.drewN k :=
  Calls.quiet_of_same ((l1All_any a xs cap lo hi (w.drewN m) (hx.below (Joins.below_draws _ _ _))).mono (fun e w' hh => ⟨by rw [← h]; exact hh.1, hh.2.symm⟩))

theorem orRelation_any (n : Int) (a : Option Addr) (xs : List Int) (cap : Nat) (w : World) (hx : Rd w a xs) :
    Calls Try.prog 69 #[.agg #[.int .i64 n, .slice a xs.length cap]] w fun e w' => e = .returned (.bool (relB n xs)) ∧ Below w.heap.size w w' := by
  have hx1 := hx.alloc (.cells #[.int .i64 n, .slice a xs.length cap] 26)
  cases h1 : inB n 0 10
  · have HR : Hid (relB n xs = false) := by simp [Hid, relB, h1]
    go_enter Try.func69, Try.ntmps69
    go_wp2_with fail
    go_quiet ((go_at_call 136; exact l1In_is h1 _ _))
    go_wp2_with fail
    go_ret
    exact ⟨ret_bool HR.out.symm, (Below.refl _ _).alloc (Nat.le_refl _) _ |>.trans (Joins.below_draws _ _ _)⟩
  · have hn := inB_iff.1 h1
    cases h2 : ((xs.length : Int) == n)
    · have HR : Hid (relB n xs = false) := by
        have : ¬ (xs.length : Int) = n := by simpa using h2
        simp [Hid, relB, h1, this]
      go_enter Try.func69, Try.ntmps69
      go_wp2_with fail
      go_quiet ((go_at_call 136; exact l1In_is h1 _ _))
      go_wp2_with fail
      go_ret
      exact ⟨ret_bool HR.out.symm, (Below.refl _ _).alloc (Nat.le_refl _) _ |>.trans (Joins.below_draws _ _ _)⟩
    · cases h3 : allB xs 0 (wrap64 (wrap64 (2 ^ n.toNat) - 1))
      all_goals
        have HR : Hid (relB n xs = allB xs 0 (wrap64 (wrap64 (2 ^ n.toNat) - 1))) := by
          have : (xs.length : Int) = n := by simpa using h2
          simp only [Hid, relB, h1, this, full_eq hn.1 hn.2]
          simp
        have H3 := Lib.hid h3
        clear h3
        go_enter Try.func69, Try.ntmps69
        go_wp2_with fail
        go_quiet ((first | (go_at_call 136; exact l1In_is h1 _ _) | (go_at_call 137; exact l1All_is hx1 H3.out _)))
        go_wp2_with fail
        go_ret
        exact ⟨ret_bool (by rw [HR.out, H3.out]), (Below.refl _ _).alloc (Nat.le_refl _) _ |>.trans (Joins.below_draws _ _ _)⟩

theorem wpList_append_none {P : Program} {w : World} {ops : Array Oper} {rest : List Oper} {o : Oper} {a : Act} {Q : Exit → Act → World → Prop} (hgd : o.guard = none) (s x : Operand) (t : TypeId)
    (ho : o.op = .call { callee := .builtin .append, args := #[s, x], argTypes := #[t, t] })
    (base : Nat) (e : TypeId) (i : TypeInfo) (size : Nat) (ht : P.underlying t = some (.slice e)) (hi : P.info? e = some i)
    (v : Value) (n c : Nat) (xs : List Value) (hs : a.eval s = v) (hown : w.ownsRow base e size v n xs) (hx : a.eval x = .slice none 0 c)
    (h : wpList P ops Q rest (a.put o.dst v) w) : wpList P ops Q (o :: rest) a w := by
  refine wpList_plain hgd fun K hK => ?_
  have hrun : (Builtin.append_ #[t, t] o.type #[v, .slice none 0 c]).run P w = .ok v w := by
    rcases hown.2 with ⟨rfl, rfl⟩ | ⟨g, cap, cur, rfl, _, _, hnc, _⟩
    · simp [Builtin.append_, run_underlying ht, sizeOf, typeInfo, hi, Builtin.lenOf, Builtin.firstCells]
    · simp [Builtin.append_, run_underlying ht, sizeOf, typeInfo, hi, Builtin.lenOf, Builtin.firstCells, hnc, storeCells]
  unfold Oper.wp
  simp [execOp, ho, resolve, invoke, builtin, hs, hx, hrun, Result.andThen]
  exact hK _ _ h
theorem rd_news {w : World} {ad : Addr} {xs : List Int} (hx : Rd w (some ad) xs) : ∀ j u, (xs.map (Value.int .i64))[j]? = some u → w.cell? (ad.add j) = some u := by
  intro j u hj
  rw [List.getElem?_map, Option.map_eq_some_iff] at hj
  obtain ⟨x, hx1, rfl⟩ := hj
  obtain ⟨hlt, e⟩ := List.getElem?_eq_some_iff.1 hx1
  obtain ⟨b, off, e1, _, hc⟩ := hx.cell j hlt
  simp only [Option.some.injEq] at e1
  subst e1
  rw [Addr.add_lit, hc, nth_get xs j hlt, e]
theorem ints_one (xs : List Int) : ∀ u ∈ xs.map (Value.int .i64), u.oneCell' = true := by
  intro u hu
  obtain ⟨x, _, rfl⟩ := List.mem_map.1 hu
  rfl

theorem l1Own_any (a : Option Addr) (xs : List Int) (cap : Nat) (w : World) (hx : Rd w a xs) (hn : xs.length ≤ 1048576) :
    Calls Try.prog 146 #[.slice a xs.length cap] w fun e w' => ∃ a' cap', e = .returned (.slice a' xs.length cap') ∧ OwnI w' w.heap.size (.slice a' xs.length cap') xs ∧ Below w.heap.size w w' := by
  obtain ⟨i0, hi, hz0, hz1, hz2⟩ := info_parts infoInt
  have hown : (w.alloc (.cells #[] 3)).ownsRow w.heap.size 3 1 (.slice (some ⟨w.heap.size, 0, none⟩) 0 0) 0 [] := World.ownsRow_lit w #[] 0 (Nat.le_refl _) (by simp [maxLen]) (by simp)
  cases a with
  | none =>
    have h0 : xs = [] := by
      rcases xs with _ | ⟨x, t⟩
      · rfl
      · obtain ⟨b, off, e, _⟩ := hx.cell 0 (by simp)
        cases e
    subst h0
    go_enter Try.func146, Try.ntmps146
    go_wp2_with (at_builtin; refine wpList_append_none rfl _ _ 24 rfl w.heap.size 3 i0 1 Try.underlying24 hi _ 0 _ [] rfl hown rfl ?_)
    go_wp2_with fail
    go_ret
    exact ⟨_, _, rfl, hown, (by repeat (first | exact Below.refl _ _ | assumption | refine Below.alloc ?_ (by first | exact Nat.le_refl _ | (simp only [World.size_alloc, World.size_setCell, World.size_drew]; omega) | omega) _ | refine Below.setCell ?_ (by first | exact Nat.le_refl _ | (simp only [World.size_alloc, World.size_setCell, World.size_drew]; omega) | omega) _ | refine Below.drew ?_))⟩
  | some ad =>
    have hx1 := hx.alloc (.cells #[] 3)
    go_enter Try.func146, Try.ntmps146
    go_wp2_with (at_builtin; refine wpList_append_own _ rfl _ _ 24 rfl w.heap.size 3 i0 (.int .i64 0) 1 8 Try.underlying24 hi hz0 hz1 hz2 rfl (by decide) _ 0 [] rfl hown ad xs.length cap (xs.map (Value.int .i64)) rfl (by simp) ?c1 ?c2 ?c3 ?c4 ?c5 ?_)
    case c1 => exact rd_news hx1
    case c2 => exact ints_one xs
    case c3 => unfold maxLen; omega
    case c4 => omega
    case c5 => simp
    · intro v' w1 hown' hgrow _
      try simp only [Nat.zero_add, List.nil_append] at hown'
      have hb : Below w.heap.size w w1 := ((Below.refl _ _).alloc (Nat.le_refl _) _).grown hgrow (by simp) (fun b e => by simp [Value.ownBlock] at e; omega)
      obtain ⟨a', cap', rfl⟩ := OwnI.form (xs := xs) hown'
      have HO := Lib.hid hown'
      clear hown' hgrow hown
      go_wp2_with fail
      go_ret
      exact ⟨a', cap', rfl, HO.out, hb⟩

theorem orHas_any (s i : Int) (w : World) (h0 : 0 ≤ s) (h1 : s ≤ 9223372036854775807) (hi : 0 ≤ i) :
    Calls Try.prog 140 #[.int .i64 s, .int .i64 i] w fun e w' => e = .returned (.bool (hasB s i)) ∧ w = w' := by
  have H := Lib.hid (has_mod h0 h1 hi)
  go_enter Try.func140, Try.ntmps140
  go_wp2
  go_ret
  exact ⟨ret_bool H.out, rfl⟩

def belows (xs : List Int) (k : Nat) : List Int := fmap (fun i => ((belowTo xs i xs.length : Nat) : Int)) k
theorem belows_len (xs : List Int) (k : Nat) : (belows xs k).length = k := fmap_len _ _

def mirN (n : Int) (xs : List Int) : Int := if relB n xs then n else 0
def mirL (n : Int) (xs : List Int) : List Int := if relB n xs then belows xs xs.length else []
theorem mirL_len (n : Int) (xs : List Int) : (mirL n xs).length ≤ 1048576 := by
  unfold mirL
  split
  · rename_i h
    have hp := relB_p h
    have := hp.len
    have := hp.n1
    rw [belows_len]
    omega
  · simp
/-- what a call hands back that makes an order -/
def GotO (w : World) (n : Int) (ys : List Int) (ok : Bool) (e : Ending) (w' : World) : Prop :=
  ∃ a cap, e = .returned (.tuple #[.agg #[.int .i64 n, .slice a ys.length cap], .bool ok]) ∧ OwnI w' w.heap.size (.slice a ys.length cap) ys ∧ Below w.heap.size w w'

theorem sCloseRelation_any (n : Int) (a : Option Addr) (xs : List Int) (cap : Nat) (w : World) (hn : -9223372036854775808 ≤ n ∧ n ≤ 9223372036854775807) (hx : Rd w a xs) :
    Calls Try.prog 184 #[.agg #[.int .i64 n, .slice a xs.length cap]] w (GotO w (cloN n xs) (cloL n xs) (relB n xs)) := by
  have hx1 := (hx.alloc (.cells #[.int .i64 n, .slice a xs.length cap] 26)).alloc (.cells #[.int .i64 0, .slice none 0 0] 26)
  cases hr : relB n xs
  · have H1 : Hid (cloN n xs = 0) := by simp [Hid, cloN, hr]
    have H2 : Hid (cloL n xs = []) := by simp [Hid, cloL, hr]
    go_enter Try.func184, Try.ntmps184
    go_wp2_with fail
    refine (orRelation_any _ _ _ _ _ hx1).mono ?_
    rintro e w1 ⟨rfl, hb1⟩
    have hz := hb1.size
    simp only [World.size_alloc] at hz
    obtain ⟨hc, hf⟩ := bcell hb1
    have bw1 : Below w.heap.size w w1 := Below.trans (by repeat (first | exact Below.refl _ _ | assumption | refine Below.alloc ?_ (by first | exact Nat.le_refl _ | (simp only [World.size_alloc, World.size_setCell, World.size_drew]; omega) | omega) _ | refine Below.setCell ?_ (by first | exact Nat.le_refl _ | (simp only [World.size_alloc, World.size_setCell, World.size_drew]; omega) | omega) _ | refine Below.drew ?_)) (hb1.mono (by first | (simp only [World.size_alloc, World.size_setCell, World.size_drew]; omega) | omega))
    go_wp2_with fail
    refine bodyPost_ret (v := .tuple #[.agg #[.int .i64 0, .slice none 0 0], .bool false]) (by simp [results, Try.results184, go_sem, hc]) rfl ?_
    refine ⟨none, 0, ?_, ?_, ?_⟩
    · rw [H1.out, H2.out]; rfl
    · rw [H2.out]; exact OwnI.nil _ _
    · exact (bw1.setCell (by simp) _).setCell (by simp) _
  · have hp := relB_p hr
    have hsm := hp.sm
    have hl10 : xs.length ≤ 10 := by have := hp.len; have := hp.n1; omega
    have H1 : Hid (cloN n xs = n) := by simp [Hid, cloN, hr]
    have H2 : Hid (cloL n xs = clAll xs xs.length) := by simp [Hid, cloL, hr]
    go_enter Try.func184, Try.ntmps184
    go_wp2_with fail
    refine (orRelation_any _ _ _ _ _ hx1).mono ?_
    rintro e w1 ⟨rfl, hb1⟩
    have A1 : Box2 w1 w.heap.size (.int .i64 n) (.slice a xs.length cap) := ((Box2.new w _ _ _).below ((Below.refl _ _).alloc (Nat.le_refl _) _)).below hb1
    have R1 : Var2 w1 (w.heap.size + 1) (.int .i64 0) (.slice none 0 0) := by
      have := (Var2.new (w.alloc (.cells #[.int .i64 n, .slice a xs.length cap] 26)) (.int .i64 0) (.slice none 0 0) 26).below hb1
      simpa using this
    have ⟨zA, cA, dA⟩ := A1
    have bw1 : Below w.heap.size w w1 := Below.trans (by repeat (first | exact Below.refl _ _ | assumption | refine Below.alloc ?_ (by first | exact Nat.le_refl _ | (simp only [World.size_alloc, World.size_setCell, World.size_drew]; omega) | omega) _ | refine Below.setCell ?_ (by first | exact Nat.le_refl _ | (simp only [World.size_alloc, World.size_setCell, World.size_drew]; omega) | omega) _ | refine Below.drew ?_)) (hb1.mono (by first | (simp only [World.size_alloc, World.size_setCell, World.size_drew]; omega) | omega))
    have hz1 : w.heap.size + 2 ≤ w1.heap.size := by have := R1.1.1; omega
    clear hb1
    go_wp2_with fail
    go_cut [4] (fun s4 wx => ∃ (b4 : Nat) (a2 : Option Addr) (cap2 : Nat), s4 = .pointer (some ⟨b4, 0, none⟩) ∧ Box2 wx b4 (.int .i64 n) (.slice a2 xs.length cap2) ∧ OwnI wx (w.heap.size + 2) (.slice a2 xs.length cap2) xs ∧ (∀ b, (Value.slice a2 xs.length cap2).ownBlock = some b → b ≠ b4) ∧ w.heap.size + 2 ≤ b4 ∧ Below w.heap.size w wx ∧ Var2 wx (w.heap.size + 1) (.int .i64 0) (.slice none 0 0))
    case first =>
      go_region_held3 (fun w' => w'.cell? ⟨w.heap.size, 0, none⟩ = some (.int .i64 n) ∧ w'.cell? ⟨w.heap.size, 1, none⟩ = some (.slice a xs.length cap))
        (first | exact ⟨A3.2.1, A3.2.2⟩ | exact ⟨A2.2.1, A2.2.2⟩ | exact ⟨(A1.below ((Below.refl _ _).alloc (Nat.le_refl _) _).drew).2.1, (A1.below ((Below.refl _ _).alloc (Nat.le_refl _) _).drew).2.2⟩ | exact ⟨(A2.below ((Below.refl _ _).alloc (Nat.le_refl _) _)).2.1, (A2.below ((Below.refl _ _).alloc (Nat.le_refl _) _)).2.2⟩ | go_keep)
        (first | (go_at_call 146; refine (l1Own_any _ _ _ (w1.alloc (.cells #[.int .i64 0, .slice none 0 0] 26)).drew (hx.below (bw1.alloc bw1.size _).drew) (by omega)).mono ?_; rintro e w2 ⟨a2, cap2, rfl, ho2, hb2⟩; have ht2 : Below w1.heap.size w1 w2 := Below.trans ((Below.refl _ _).alloc (Nat.le_refl _) (.cells #[.int .i64 0, .slice none 0 0] 26)).drew (hb2.mono (by simp)); have A2 := A1.below ht2; have A3 := (A2.set (p := ⟨w1.heap.size, 0, none⟩) (.int .i64 n) (show w.heap.size ≠ w1.heap.size by omega)).set (p := ⟨w1.heap.size, 1, none⟩) (.slice a2 xs.length cap2) (show w.heap.size ≠ w1.heap.size by omega); have V2 : Var2 w2 w1.heap.size (.int .i64 0) (.slice none 0 0) := Var2.below (w := (w1.alloc (.cells #[.int .i64 0, .slice none 0 0] 26)).drew) (Var2.new w1 _ _ _) hb2; have ⟨⟨zV2, cV2, dV2⟩, fV2, gV2⟩ := V2) | (go_at_call 146; refine (l1Own_any _ _ _ w1.drew (hx.below bw1.drew) (by omega)).mono ?_; rintro e w2 ⟨a2, cap2, rfl, ho2, hb2⟩; have ht2 : Below w1.heap.size w1 w2 := Below.trans (Below.refl _ w1).drew (hb2.mono (show w1.heap.size ≤ w1.heap.size by omega)); have A2 := A1.below ht2; have z12 : w1.heap.size ≤ w2.heap.size := ht2.size))
      all_goals go_wp2_with fail
      · go_meet
        have bw2 := bw1.trans (ht2.mono bw1.size)
        have ho3 : OwnI w2 (w.heap.size + 2) (.slice a2 xs.length cap2) xs := ho2.mono (show w.heap.size + 2 ≤ w1.heap.size from hz1)
        exact ⟨w2.heap.size, a2, cap2, rfl, Box2.new _ _ _ _, ho3.alloc _, fun b e => by have := (ho2.lt b e).2; omega, by omega, bw2.alloc bw2.size _, (R1.below ht2).alloc _⟩
      · go_meet
        have bw2 := bw1.trans (ht2.mono bw1.size)
        have R3 := ((R1.below ht2).other (p := ⟨w1.heap.size, 0, none⟩) (.int .i64 n) (show w.heap.size + 1 ≠ w1.heap.size by omega)).other (p := ⟨w1.heap.size, 1, none⟩) (.slice a2 xs.length cap2) (show w.heap.size + 1 ≠ w1.heap.size by omega)
        have ho3 : OwnI _ (w.heap.size + 2) (.slice a2 xs.length cap2) xs := ((ho2.setBelow (p := ⟨w1.heap.size, 0, none⟩) (by simp) (.int .i64 n)).setBelow (p := ⟨w1.heap.size, 1, none⟩) (by simp) (.slice a2 xs.length cap2)).mono (B' := w.heap.size + 2) (by simp; omega)
        exact ⟨w1.heap.size, a2, cap2, rfl, (V2.set (.int .i64 n) (.slice a2 xs.length cap2)).1, ho3, fun b e => by have := (ho2.lt b e).1; simp at this; omega, hz1, (bw2.setCell (p := ⟨w1.heap.size, 0, none⟩) bw1.size (.int .i64 n)).setCell (p := ⟨w1.heap.size, 1, none⟩) bw1.size (.slice a2 xs.length cap2), R3⟩
    case rest =>
    obtain ⟨b4, a2, cap2, rfl, V3, ho3, U2, hb4, bw3, R3⟩ := hcut
    have ⟨zV3, cV3, dV3⟩ := V3
    clear A1 R1 cA dA
    go_wp2_with fail
    go_loopw [20] (fun i wr => ∃ k : Nat, k ≤ xs.length ∧ i = .int .i64 k ∧ OwnI wr (w.heap.size + 2) (.slice a2 xs.length cap2) (clAll xs k) ∧ Below w.heap.size w wr ∧ Box2 wr b4 (.int .i64 n) (.slice a2 xs.length cap2) ∧ Var2 wr (w.heap.size + 1) (.int .i64 0) (.slice none 0 0)) (fun i _ => xs.length - (intOf i).toNat)
    case atStart => exact ⟨0, Nat.zero_le _, rfl, ho3, bw3, V3, R3⟩
    case round =>
      obtain ⟨k, hk, rfl, hown, hb, hA, hR⟩ := hrel
      have ⟨zA, cA, dA⟩ := hA
      by_cases hlt : k < xs.length
      · go_wp2_with fail
        obtain ⟨wo, hwo⟩ : ∃ wo : World, wo = wr := ⟨_, rfl⟩
        go_loopw [26] (fun i wi => ∃ j : Nat, j ≤ xs.length ∧ i = .int .i64 j ∧ OwnI wi (w.heap.size + 2) (.slice a2 xs.length cap2) (clRow (clAll xs k) k j) ∧ Below w.heap.size w wi ∧ Box2 wi b4 (.int .i64 n) (.slice a2 xs.length cap2) ∧ Var2 wi (w.heap.size + 1) (.int .i64 0) (.slice none 0 0)) (fun i _ => xs.length - (intOf i).toNat)
        case atStart => exact ⟨0, Nat.zero_le _, rfl, hown, hb, hA, hR⟩
        case round =>
          obtain ⟨j, hj, rfl, hown, hb, hA, hR⟩ := hrel
          have ⟨zI, cI, dI⟩ := hA
          by_cases hjl : j < xs.length
          · obtain ⟨ys, hys⟩ : ∃ ys, ys = clRow (clAll xs k) k j := ⟨_, rfl⟩
            have hyl : ys.length = xs.length := by rw [hys, clRow_len, clAll_len]
            have hysm : Small ys := by rw [hys]; exact clRow_small (clAll_small hsm k hk) (by rw [clAll_len]; exact hlt) j (by rw [clAll_len]; exact hj)
            have hnext : clRow (clAll xs k) k (j + 1) = clStep ys k j := by rw [hys]; rfl
            rw [← hys] at hown
            obtain ⟨g, rfl, hg1, hg2⟩ := hown.head (by omega)
            have hgu := U2 g rfl
            have ⟨ci, fi⟩ := hown.at' hyl.symm (i := j) (by omega)
            have ⟨ck, fk⟩ := hown.at' hyl.symm (i := k) (by omega)
            have ⟨s0, s1⟩ := hysm j (by omega)
            have ⟨t0, t1⟩ := hysm k (by omega)
            have s2 : nth ys j ≤ 9223372036854775807 := by omega
            have hor := or_i (a := nth ys j) (b := nth ys k) s0 (by omega) t0 (by omega)
            have hput := hown.put hyl.symm j (bits .or .i64 (nth ys j) (nth ys k))
            rw [hor] at hput
            have HY := Lib.hid hyl
            have HN := Lib.hid hnext
            have HO := Lib.hid hor
            have HP := Lib.hid hput
            have j0 : (0 : Int) ≤ (j : Int) := by omega
            have j1 : (j : Int) < (xs.length : Int) := by omega
            have k0 : (0 : Int) ≤ (k : Int) := by omega
            have k1 : (k : Int) < (xs.length : Int) := by omega
            clear hys hyl hysm hnext hor hput
            cases hin : hasB (nth ys j) k
            · go_wp2_with fail
              refine (orHas_any _ _ _ s0 s2 k0).mono ?_
              rintro e w' ⟨rfl, rfl⟩
              go_wp2_with fail
              go_roundw
              case rel => exact ⟨j + 1, by omega, by go_num, by rw [HN.out, clStep, hin]; exact hown, hb, hA, hR⟩
              case measure => simp [intOf]; omega
            · go_wp2_with fail
              refine (orHas_any _ _ _ s0 s2 k0).mono ?_
              rintro e w' ⟨rfl, rfl⟩
              go_wp2_with fail
              go_region
              all_goals
                go_wp2_with fail
                go_roundw
                case rel =>
                  refine ⟨j + 1, by omega, by go_num, ?_, ?_, ?_, ?_⟩
                  · rw [HN.out, clStep, hin, if_pos rfl, ← HO.out]
                    have := HP.out.1
                    rw [← HO.out] at this
                    exact this
                  · exact (hb.drew).setCell (p := ⟨g, j, none⟩) (show w.heap.size ≤ g by omega) _
                  · exact hA.set (p := ⟨g, j, none⟩) _ (show b4 ≠ g by omega)
                  · exact hR.other (p := ⟨g, j, none⟩) _ (show w.heap.size + 1 ≠ g by omega)
                case measure => simp [intOf]; omega
          · obtain rfl : j = xs.length := by omega
            go_wp2_with fail
            go_roundw
            case rel => exact ⟨k + 1, by omega, by go_num, by show OwnI wr _ _ (clRow (clAll xs k) k xs.length); exact hown, hb, hA, hR⟩
            case measure => simp [intOf]; omega
      · obtain rfl : k = xs.length := by omega
        have ⟨⟨zR, cR, dR⟩, fR, gR⟩ := hR
        go_wp2_with fail
        have R3 := hR.set (.int .i64 n) (.slice a2 xs.length cap2)
        refine bodyPost_ret (v := .tuple #[.agg #[.int .i64 n, .slice a2 xs.length cap2], .bool true]) (by have ⟨⟨_, q1, q2⟩, _, _⟩ := R3; simp [results, Try.results184, go_sem, q1, q2]) rfl ?_
        refine ⟨a2, cap2, ?_, ?_, ?_⟩
        · rw [H1.out, H2.out, clAll_len]
        · rw [H2.out, clAll_len]
          exact ((hown.setBelow (p := ⟨w.heap.size + 1, 0, none⟩) (show w.heap.size + 1 < w.heap.size + 2 by omega) _).setBelow (p := ⟨w.heap.size + 1, 1, none⟩) (show w.heap.size + 1 < w.heap.size + 2 by omega) _).mono (by omega)
        · exact (hb.setCell (p := ⟨w.heap.size + 1, 0, none⟩) (show w.heap.size ≤ w.heap.size + 1 by omega) _).setCell (p := ⟨w.heap.size + 1, 1, none⟩) (show w.heap.size ≤ w.heap.size + 1 by omega) _

/-- quiet operations in one world leave it as it is -/
theorem still_of_quiet {P : Program} {o : Oper} {a : Act} {w : World} {K : Act → Prop} (h : o.quiet P a (fun w' => w' = w) K) : o.still P a w K := by
  obtain ⟨v, h1, h2⟩ := h
  have h3 := h1 w rfl
  unfold Oper.quietAt at h3
  unfold Oper.still
  generalize (execOp a.eval o).run P w = r at h3
  cases r with
  | ok n w' =>
    cases n <;> simp only [Oper.quietUpon] at h3 <;> simp only [Oper.stillUpon]
    case value u => exact ⟨h3.1, by rw [h3.2]; exact h2⟩
    case skip => exact ⟨h3.1, by rw [← h3.2]; exact h2⟩
    case enter f args => exact ⟨h3.1, v, h3.2, h2⟩
  | halt x w' => simp only [Oper.quietUpon] at h3
theorem wpStill_of_quiet {P : Program} {ops : Array Oper} {w : World} {Q : Act → Prop} : ∀ (l : List Oper) (a : Act), wpQuiet P ops (fun w' => w' = w) Q l a → wpStill P ops w Q l a
  | [], a, h => h
  | o :: rest, a, h => by
    unfold wpQuiet at h
    unfold wpStill
    split
    · rename_i hw
      rw [if_pos hw] at h
      exact Oper.still_mono (fun a' h' => wpStill_of_quiet rest a' h') (still_of_quiet h)
    · rename_i hw
      rw [if_neg hw] at h
      exact wpStill_of_quiet rest _ h
/-- a region that draws its order: all operations but the last ones are quiet -/
theorem wp_region_quiet_tail {P : Program} {id : Nat} {Q : Exit → Act → World → Prop} {a : Act} {w : World} {l : List Oper} (n : Nat) (hm : P.follows .mixedOrders = true) (hB : Region.lexTailB .any l.toArray n = true)
    (h : wpQuiet P l.toArray (fun w' => w' = w.drew) (fun a' => wpList P l.toArray Q (l.drop n) a' w.drew) (l.take n) a) : (Code.region id l.toArray true).wp P Q a w :=
  wp_region_still_tail n hm hB (wpStill_of_quiet _ _ h)

/-- two lists, each in a block of its own -/
def Apart (v u : Value) : Prop := ∀ c, v.ownBlock = some c → u.ownBlock ≠ some c
theorem apart_nil (u : Value) : Apart (.slice none 0 0) u := fun c e => by simp [Value.ownBlock] at e
theorem Apart.left {v v' u : Value} {w : World} {B : Nat} {xs : List Int} (h : Apart v u) (hu : OwnI w B u xs) (hv : v'.ownBlock = v.ownBlock ∨ ∃ g, v'.ownBlock = some g ∧ w.heap.size ≤ g) : Apart v' u := fun c e e2 => by
  rcases hv with e3 | ⟨g, e3, hg⟩
  · exact h c (by rw [← e3]; exact e) e2
  · rw [e3] at e; simp only [Option.some.injEq] at e; have := (hu.lt c e2).2; omega
theorem Apart.right {v u u' : Value} {w : World} {B : Nat} {xs : List Int} (h : Apart v u) (hv : OwnI w B v xs) (hu : u'.ownBlock = u.ownBlock ∨ ∃ g, u'.ownBlock = some g ∧ w.heap.size ≤ g) : Apart v u' := fun c e e2 => by
  rcases hu with e3 | ⟨g, e3, hg⟩
  · exact h c e (by rw [← e3]; exact e2)
  · rw [e3] at e2; simp only [Option.some.injEq] at e2; have := (hv.lt c e).2; omega
theorem Apart.own {v u : Value} (h : Apart v u) : v.ownBlock = none ∨ v.ownBlock ≠ u.ownBlock := own_ne (fun c e e2 => h c e e2)
theorem Apart.own' {v u : Value} (h : Apart v u) : u.ownBlock = none ∨ u.ownBlock ≠ v.ownBlock := own_ne (fun c e e2 => h c e2 e)
theorem zeros_small (n : Nat) : ∀ j, j < n → 0 ≤ nth (List.replicate n (0 : Int)) j ∧ nth (List.replicate n (0 : Int)) j < 1024 := fun j hj => by
  have e : nth (List.replicate n (0 : Int)) j = 0 := by simp [nth, hj]
  rw [e]; omega
/-- what holds while the pairs are drawn -/
structure OrdInv (w : World) (Z G V B p c n : Nat) (lv rv : Value) (ls rs : List Int) : Prop where
  ex : ∃ xs : List Int, xs.length = n ∧ OwnI w G (.slice (some ⟨G, 0, none⟩) n n) xs ∧ (∀ k, k < n → 0 ≤ nth xs k ∧ nth xs k < 1024) ∧ Var2 w V (.int .i64 (n : Int)) (.slice (some ⟨G, 0, none⟩) n n) ∧ Var2 w Z (.int .i64 0) (.slice none 0 0) ∧ OwnI w B lv ls ∧ OwnI w B rv rs ∧ Cur w p c
theorem OrdInv.mono {w : World} {Z G V B p c c' n : Nat} {lv rv : Value} {ls rs : List Int} (h : OrdInv w Z G V B p c n lv rv ls rs) (hc : c ≤ c') : OrdInv w Z G V B p c' n lv rv ls rs := by
  obtain ⟨xs, h1, h2, h3, h4, h5, h6, h7, h8⟩ := h.ex
  exact ⟨xs, h1, h2, h3, h4, h5, h6, h7, h8.mono hc⟩
theorem OrdInv.drawn {w w' : World} {Z G V B p c n c' : Nat} {lv rv : Value} {ls rs : List Int} (h : OrdInv w Z G V B p c n lv rv ls rs) (hd : Drawn w w' p) (hc : Cur w' p c') (hZ : p < Z) (hG : p < G) (hV : p < V) (hB : p < B) : OrdInv w' Z G V B p c' n lv rv ls rs := by
  obtain ⟨xs, h1, h2, h3, h4, h5, h6, h7, h8⟩ := h.ex
  exact ⟨xs, h1, h2.drawn hd hG, h3, h4.drawn hd (by omega), h5.drawn hd (by omega), h6.drawn hd hB, h7.drawn hd hB, hc⟩
theorem OrdInv.drawnN {w : World} {Z G V B p c n c' k : Nat} {lv rv : Value} {ls rs : List Int} (h : OrdInv w Z G V B p c n lv rv ls rs) (hc : c ≤ c') : OrdInv (w.drewN k) Z G V B p c' n lv rv ls rs := by
  obtain ⟨xs, h1, h2, h3, h4, h5, h6, h7, h8⟩ := h.ex
  have b := Joins.below_draws w.heap.size w k
  exact ⟨xs, h1, h2.below b (Nat.le_refl _), h3, h4.below b, h5.below b, h6.below b (Nat.le_refl _), h7.below b (Nat.le_refl _), (h8.below b).mono hc⟩
theorem OrdInv.below {w w' : World} {Z G V B p c n : Nat} {lv rv : Value} {ls rs : List Int} (h : OrdInv w Z G V B p c n lv rv ls rs) (b : Below w.heap.size w w') : OrdInv w' Z G V B p c n lv rv ls rs := by
  obtain ⟨xs, h1, h2, h3, h4, h5, h6, h7, h8⟩ := h.ex
  exact ⟨xs, h1, h2.below b (Nat.le_refl _), h3, h4.below b, h5.below b, h6.below b (Nat.le_refl _), h7.below b (Nat.le_refl _), h8.below b⟩
theorem OrdInv.put {w W' : World} {Z G V B p c c' n a : Nat} {lv rv : Value} {ls rs xs : List Int} (hl : xs.length = n) (ho : OwnI w G (.slice (some ⟨G, 0, none⟩) n n) xs) (hx : ∀ k, k < n → 0 ≤ nth xs k ∧ nth xs k < 1024) (hV : Var2 w V (.int .i64 (n : Int)) (.slice (some ⟨G, 0, none⟩) n n)) (hZ : Var2 w Z (.int .i64 0) (.slice none 0 0)) (hA : OwnI w B lv ls) (hB : OwnI w B rv rs) (hc : Cur w p c)
    (hb : Below w.heap.size w W') (ha : a < n) (y : Nat) (hy : y < 1024) (hc' : c ≤ c') (h1 : G < B) (h2 : V ≠ G) (h3 : Z ≠ G) (h4 : p < G) : OrdInv (W'.setCell ⟨G, a, none⟩ (.int .i64 (y : Int))) Z G V B p c' n lv rv ls rs := by
  have hput := ((ho.below hb (Nat.le_refl _)).put hl.symm a (y : Int)).1
  refine ⟨xs.set a (y : Int), by simp; exact hl, hput, fun j hj => ?_, (hV.below hb).other (p := ⟨G, a, none⟩) _ h2, (hZ.below hb).other (p := ⟨G, a, none⟩) _ h3, (hA.below hb (Nat.le_refl _)).setBelow (p := ⟨G, a, none⟩) h1 _, (hB.below hb (Nat.le_refl _)).setBelow (p := ⟨G, a, none⟩) h1 _, ((hc.below hb).set ⟨G, a, none⟩ _ h4).mono hc'⟩
  by_cases e : j = a
  · rw [e, nth_set (by omega), if_pos rfl]; omega
  · rw [nth_set (by omega), if_neg (fun h => e h.symm)]; exact hx j hj
theorem cloN_len (n : Int) (xs : List Int) : cloN n xs = ((cloL n xs).length : Int) := by
  unfold cloN cloL
  cases h : relB n xs
  · simp
  · simp only [if_true, clAll_len]
    exact (relB_p h).len.symm
theorem cloL_le (n : Int) (xs : List Int) : (cloL n xs).length ≤ xs.length := by
  unfold cloL
  split
  · rw [clAll_len]; exact Nat.le_refl _
  · simp
theorem cloL_small {n : Int} {xs : List Int} (h : ∀ k, k < xs.length → 0 ≤ nth xs k ∧ nth xs k < 1024) : ∀ k, k < (cloL n xs).length → 0 ≤ nth (cloL n xs) k ∧ nth (cloL n xs) k < 1024 := by
  unfold cloL
  split
  · exact clAll_small h _ (Nat.le_refl _)
  · intro k hk; simp at hk
set_option maxRecDepth 100000 in
set_option maxHeartbeats 2000000 in
theorem order_any (p L m : Nat) (w : World) (h : Cur w p L) (hL : L ≤ 700000000) (hm : m ≤ 10) :
    Calls Try.prog 133 #[.pointer (some ⟨p, 0, none⟩), .int .i64 (m : Int)] w fun e w' => ∃ a cap xs, e = .returned (.agg #[.int .i64 (xs.length : Int), .slice a xs.length cap]) ∧ OwnI w' w.heap.size (.slice a xs.length cap) xs ∧ xs.length ≤ m ∧ (∀ k, k < xs.length → 0 ≤ nth xs k ∧ nth xs k < 1024) ∧ Cur w' p (L + 400) ∧ Drawn w w' p := by
  obtain ⟨i0, hi, hz0, hz1, hz2⟩ := info_parts infoInt
  have hpw := h.lt
  have ha : Below w.heap.size w (w.alloc (.cells #[.int .i64 0, .slice none 0 0] 26)) := (by repeat (first | exact Below.refl _ _ | assumption | refine Below.alloc ?_ (by first | exact Nat.le_refl _ | (simp only [World.size_alloc, World.size_setCell, World.size_drew]; omega) | omega) _ | refine Below.setCell ?_ (by first | exact Nat.le_refl _ | (simp only [World.size_alloc, World.size_setCell, World.size_drew]; omega) | omega) _ | refine Below.drew ?_))
  have H := Lib.hid (h.below ha)
  have HR := Lib.hid (Var2.new w (.int .i64 0) (.slice none 0 0) 26)
  clear h
  go_enter Try.func133, Try.ntmps133
  go_wp2_with fail
  refine (pick_any p L ((m : Int) + 1) _ H.out (by omega) (by omega)).mono ?_
  rintro e w1 ⟨r, rfl, hr0, hr1, hc1, hd1⟩
  obtain ⟨n, rfl⟩ := Int.eq_ofNat_of_zero_le hr0
  have hn : n ≤ m := by omega
  have hs1 : w.heap.size + 1 ≤ w1.heap.size := by have := hd1.size; simpa using this
  have HC1 := Lib.hid hc1
  have HD1 := Lib.hid hd1.of_alloc
  have HR1 := Lib.hid (HR.out.drawn hd1 (by omega))
  clear hc1 hd1 hr0 hr1
  go_wp2_with (at_make; refine wpList_make_full _ rfl (.tmp 21) (.tmp 21) 24 rfl w1.heap.size 3 i0 (.int .i64 0) 1 Try.underlying24 hi hz0 hz1 .i64 .i64 _ _ n rfl rfl rfl rfl (by rw [hz2]; omega) (by unfold maxLen; omega) (Nat.le_refl _) ?_; intro w2 hown hgrow; revert hgrow)
  intro hgrow
  have b2 : Below w1.heap.size w1 w2 := (Below.refl _ _).grown hgrow (Nat.le_refl _) (fun k h => by cases h)
  have ho2 : OwnI w2 w1.heap.size (.slice (some ⟨w1.heap.size, 0, none⟩) n n) (List.replicate n 0) := by
    unfold OwnI
    simpa [Value.cells, toList_madeCells_one] using hown
  have hs2 : w1.heap.size < w2.heap.size := (ho2.lt w1.heap.size rfl).2
  have HB2 := Lib.hid b2
  have HO2 := Lib.hid ho2
  clear hown hgrow b2 ho2
  go_wp2_with fail
  have ba2 : Below w2.heap.size w2 (w2.alloc (.cells #[.int .i64 (n : Int), .slice (some ⟨w1.heap.size, 0, none⟩) n n] 26)) := (by repeat (first | exact Below.refl _ _ | assumption | refine Below.alloc ?_ (by first | exact Nat.le_refl _ | (simp only [World.size_alloc, World.size_setCell, World.size_drew]; omega) | omega) _ | refine Below.setCell ?_ (by first | exact Nat.le_refl _ | (simp only [World.size_alloc, World.size_setCell, World.size_drew]; omega) | omega) _ | refine Below.drew ?_))
  have b12 := HB2.out.trans (ba2.mono HB2.out.size)
  refine (pick_any p (L + 2) 3 _ (HC1.out.below b12) (by omega) (by omega)).mono ?_
  rintro e w3 ⟨kd, rfl, hkd0, hkd1, hc3, hd3⟩
  have hs3 : w2.heap.size + 1 ≤ w3.heap.size := by have := hd3.size; simpa using this
  have HC3 := Lib.hid hc3
  have HD3 := Lib.hid ((HD1.out.below b12).trans hd3)
  have HO3 := Lib.hid ((HO2.out.alloc (.cells #[.int .i64 (n : Int), .slice (some ⟨w1.heap.size, 0, none⟩) n n] 26)).drawn hd3 (by omega))
  have HV3 := Lib.hid ((Var2.new w2 (.int .i64 (n : Int)) (.slice (some ⟨w1.heap.size, 0, none⟩) n n) 26).drawn hd3 (by omega))
  have HR3 := Lib.hid ((HR1.out.below b12).drawn hd3 (by omega))
  clear hc3 hd3 ba2 b12 hkd1 HC1 HD1 HR1 HB2 HO2 H HR
  go_wp2_with fail
  go_loopw [8, 9, 10] (fun v u i wr => ∃ (k : Nat) (ls rs : List Int), k ≤ n ∧ i = .int .i64 k ∧ ls.length = k ∧ rs.length = k ∧ OwnI wr w3.heap.size v ls ∧ OwnI wr w3.heap.size u rs ∧ Apart v u ∧ Cur wr p (L + 4 + 4 * k) ∧ Drawn w3 wr p) (fun _ _ i _ => n - (intOf i).toNat)
  case atStart => exact ⟨0, [], [], Nat.zero_le _, rfl, rfl, rfl, OwnI.nil _ _, OwnI.nil _ _, apart_nil _, HC3.out, Drawn.refl _ _⟩
  case round =>
    obtain ⟨k, ls, rs, hk, rfl, hl1, hl2, hol, hor, hap, hc, hd⟩ := hrel
    obtain ⟨al, cl, rfl⟩ := hol.form
    obtain ⟨ar, cr, rfl⟩ := hor.form
    have hds := hd.size
    by_cases hlt : k < n
    · have k1 : (k : Int) < (n : Int) := by omega
      have HOL := Lib.hid hol
      have HOR := Lib.hid hor
      have HAP := Lib.hid hap
      have HC := Lib.hid hc
      have HD := Lib.hid hd
      have HL1 := Lib.hid hl1
      have HL2 := Lib.hid hl2
      clear hol hor hap hc hd hl1 hl2
      go_wp2_with fail
      refine (pick_any p (L + 4 + 4 * k) 8 _ HC.out (by omega) (by omega)).mono ?_
      rintro e w4 ⟨x, rfl, hx0, hx1, hc4, hd4⟩
      have hs4 := hd4.size
      have HC4 := Lib.hid hc4
      have HD4 := Lib.hid (HD.out.trans hd4)
      have HOL4 := Lib.hid (HOL.out.drawn hd4 (by omega))
      have HOR4 := Lib.hid (HOR.out.drawn hd4 (by omega))
      have hll : ls.length ≤ 1048576 := by have := HL1.out; omega
      have hb4 : w3.heap.size ≤ w4.heap.size := by omega
      clear hc4 hd4
      go_wp2_with (at_builtin; refine push_at (v := .slice al ls.length cl) (z := x) rfl _ _ rfl rfl HOL4.out rfl hll hb4 ?_; intro v5 w5 o5 hg5 hat5; revert hat5)
      intro hat5
      obtain ⟨a5, c5, ev5⟩ := o5.form
      subst ev5
      have hlo := HOL4.out.lt
      have hs5 := hg5.size
      have hap5 : Apart (.slice a5 (ls ++ [x]).length c5) (.slice ar rs.length cr) := HAP.out.left HOR4.out (hat5.imp id (fun h => ⟨_, h, by omega⟩))
      have hor5 := HOR4.out.kept hg5 HAP.out.own'
      have hc5 := HC4.out.kept hg5 (fun g e => by have := (hlo g e).1; omega)
      have hd5 := HD4.out.grown hg5 (fun c e => (hlo c e).1)
      have hll5 : (ls ++ [x]).length = k + 1 := by simp; exact HL1.out
      have HOL5 := Lib.hid o5
      have HOR5 := Lib.hid hor5
      have HAP5 := Lib.hid hap5
      have HC5 := Lib.hid hc5
      have HD5 := Lib.hid hd5
      have HLL5 := Lib.hid hll5
      have hrl : rs.length ≤ 1048576 := by have := HL2.out; omega
      have hb5 : w3.heap.size ≤ w5.heap.size := by omega
      obtain ⟨q, hq⟩ : ∃ q, q = ls ++ [x] := ⟨_, rfl⟩
      rw [← hq] at HOL5 HAP5 HLL5 ⊢
      clear o5 hg5 hat5 hlo hap5 hor5 hc5 hd5 hll5 hq
      cases hkd1 : (kd == 1)
      · go_wp2_with (at_builtin; refine push_at (v := .slice ar rs.length cr) (z := x + 2) rfl _ _ rfl rfl HOR5.out rfl hrl hb5 ?_; intro v6 w6 o6 hg6 hat6; revert hat6)
        intro hat6
        obtain ⟨a6, c6, ev6⟩ := o6.form
        subst ev6
        have hlo6 := HOR5.out.lt
        have hs6 := hg6.size
        have hap6 : Apart (.slice a5 q.length c5) (.slice a6 (rs ++ [x + 2]).length c6) := HAP5.out.right HOL5.out (hat6.imp id (fun h => ⟨_, h, by omega⟩))
        have hol6 := HOL5.out.kept hg6 HAP5.out.own
        have hc6 := HC5.out.kept hg6 (fun g e => by have := (hlo6 g e).1; omega)
        have hd6 := HD5.out.grown hg6 (fun c e => (hlo6 c e).1)
        have hll6 : (rs ++ [x + 2]).length = k + 1 := by simp; exact HL2.out
        have H6 := Lib.hid (And.intro hol6 (And.intro o6 (And.intro hap6 (And.intro hc6 hd6))))
        have HLL6 := Lib.hid hll6
        clear o6 hg6 hat6 hlo6 hap6 hol6 hc6 hd6 hll6
        go_wp2_with fail
        go_roundw
        case rel => exact ⟨k + 1, q, rs ++ [x + 2], by omega, by go_num, HLL5.out, HLL6.out, H6.out.1, H6.out.2.1, H6.out.2.2.1, H6.out.2.2.2.1.mono (by omega), H6.out.2.2.2.2⟩
        case measure => simp [intOf]; omega
      · go_wp2_with fail
        refine (pick_any p (L + 4 + 4 * k + 2) 4 _ HC5.out (by omega) (by omega)).mono ?_
        rintro e w8 ⟨y, rfl, hy0, hy1, hc8, hd8⟩
        have hs8 := hd8.size
        have HC8 := Lib.hid hc8
        have HOL8 := Lib.hid (HOL5.out.drawn hd8 (by omega))
        have HOR8 := Lib.hid (HOR5.out.drawn hd8 (by omega))
        have HD8 := Lib.hid (HD5.out.trans hd8)
        have hb8 : w3.heap.size ≤ w8.heap.size := by omega
        clear hc8 hd8
        go_wp2_with (at_builtin; refine push_at (v := .slice ar rs.length cr) (z := x + y) rfl _ _ rfl rfl HOR8.out rfl hrl hb8 ?_; intro v6 w6 o6 hg6 hat6; revert hat6)
        intro hat6
        obtain ⟨a6, c6, ev6⟩ := o6.form
        subst ev6
        have hlo6 := HOR8.out.lt
        have hs6 := hg6.size
        have hap6 : Apart (.slice a5 q.length c5) (.slice a6 (rs ++ [x + y]).length c6) := HAP5.out.right HOL8.out (hat6.imp id (fun h => ⟨_, h, by omega⟩))
        have hol6 := HOL8.out.kept hg6 HAP5.out.own
        have hc6 := HC8.out.kept hg6 (fun g e => by have := (hlo6 g e).1; omega)
        have hd6 := HD8.out.grown hg6 (fun c e => (hlo6 c e).1)
        have hll6 : (rs ++ [x + y]).length = k + 1 := by simp; exact HL2.out
        have H6 := Lib.hid (And.intro hol6 (And.intro o6 (And.intro hap6 (And.intro hc6 hd6))))
        have HLL6 := Lib.hid hll6
        clear o6 hg6 hat6 hlo6 hap6 hol6 hc6 hd6 hll6
        go_wp2_with fail
        go_roundw
        case rel => exact ⟨k + 1, q, rs ++ [x + y], by omega, by go_num, HLL5.out, HLL6.out, H6.out.1, H6.out.2.1, H6.out.2.2.1, H6.out.2.2.2.1.mono (by omega), H6.out.2.2.2.2⟩
        case measure => simp [intOf]; omega
    · obtain rfl : k = n := by omega
      have hsw : w3.heap.size ≤ wr.heap.size := hds
      have HL1 := Lib.hid hl1
      have HL2 := Lib.hid hl2
      have HIV : Hid (OrdInv wr w.heap.size w1.heap.size w2.heap.size w3.heap.size p (L + 4 + 4 * k) k (.slice al ls.length cl) (.slice ar rs.length cr) ls rs ∧ Drawn w wr p) :=
        ⟨⟨List.replicate k 0, by simp, HO3.out.drawn hd (by omega), zeros_small k, HV3.out.drawn hd (by omega), HR3.out.drawn hd (by omega), hol, hor, hc⟩, HD3.out.trans hd⟩
      obtain ⟨W4, hW4⟩ : ∃ x : World, x = wr := ⟨_, rfl⟩
      subst hW4
      clear hol hor hap hc hd hl1 hl2
      go_wp2_with fail
      go_loopw [12] (fun i wr => ∃ (a : Nat), a ≤ k ∧ i = .int .i64 a ∧ OrdInv wr w.heap.size w1.heap.size w2.heap.size w3.heap.size p (L + 4 + 4 * k + a * (2 * k)) k (.slice al ls.length cl) (.slice ar rs.length cr) ls rs ∧ Drawn w wr p) (fun i _ => k - (intOf i).toNat)
      case atStart => exact ⟨0, Nat.zero_le _, rfl, by simpa using HIV.out.1, HIV.out.2⟩
      case round =>
        obtain ⟨a, hak, rfl, hI, hd⟩ := hrel
        by_cases hal : a < k
        · have a1 : (a : Int) < (k : Int) := by omega
          have HI := Lib.hid hI
          have HD := Lib.hid hd
          obtain ⟨W5, hW5⟩ : ∃ x : World, x = wr := ⟨_, rfl⟩
          subst hW5
          clear hI hd
          go_wp2_with fail
          go_loopw [13] (fun j wr => ∃ (b : Nat), b ≤ k ∧ j = .int .i64 b ∧ OrdInv wr w.heap.size w1.heap.size w2.heap.size w3.heap.size p (L + 4 + 4 * k + a * (2 * k) + 2 * b) k (.slice al ls.length cl) (.slice ar rs.length cr) ls rs ∧ Drawn w wr p) (fun j _ => k - (intOf j).toNat)
          case atStart => exact ⟨0, Nat.zero_le _, rfl, HI.out, HD.out⟩
          case round =>
            obtain ⟨b, hbk, rfl, hI, hd⟩ := hrel
            by_cases hbl : b < k
            · have b1 : (b : Int) < (k : Int) := by omega
              have hkk : a * (2 * k) ≤ 200 := Nat.le_trans (Nat.mul_le_mul (show a ≤ 10 by omega) (show 2 * k ≤ 20 by omega)) (by omega)
              by_cases hk0 : kd = 0
              · subst hk0
                by_cases hab : a < b
                · have hab' : (a : Int) < (b : Int) := by omega
                  have HI2 := Lib.hid hI
                  have HD2 := Lib.hid hd
                  clear hI hd
                  have ⟨xs9, hl9, ho9, hx9, hV9, hZ9, hA9, hB9, hc9⟩ := HI2.out.ex
                  have HC9 := Lib.hid hc9
                  have HZ9 := Lib.hid hZ9
                  have c9 := hZ9.1.2.1
                  clear hl9 ho9 hx9 hV9 hZ9 hA9 hB9 hc9
                  go_wp2_with fail
                  refine wp_region_quiet_tail 23 (by kernel_rfl) (by kernel_rfl) ?_
                  simp only [List.take_succ_cons, List.take_zero, List.drop_succ_cons, List.drop_zero]
                  repeat (go_big_quiet_step (fail))
                  refine wpQuiet_nil ?_
                  have HI5 := Lib.hid (HI2.out.drawnN (k := 1) (c' := L + 4 + 4 * k + a * (2 * k) + 2 * b) (Nat.le_refl _))
                  have HD5 := Lib.hid (HD2.out.below (Joins.below_draws wr.heap.size wr 1))
                  have HC5 := Lib.hid (HC9.out.below (Joins.below_draws wr.heap.size wr 1))
                  go_wp2_with fail
                  refine (one_any p (L + 4 + 4 * k + a * (2 * k) + 2 * b) 3 _ HC5.out (by omega) (by omega)).mono ?_
                  rintro e w5 ⟨he, hc5, hd5⟩
                  have HI6 := Lib.hid (HI5.out.drawn hd5 hc5 (by omega) (by omega) (by omega) (by omega))
                  have HD6 := Lib.hid (HD5.out.trans hd5)
                  have hs5 := hd5.size
                  clear hc5 hd5 HI5 HD5 HC5
                  rcases he with rfl | rfl
                  · go_wp2_with fail
                    obtain ⟨xs, hl, ho, hx, hV, hZ, hA, hB, hc⟩ := HI6.out.ex
                    have ⟨ci, fi⟩ := ho.at' hl.symm (i := a) (by omega)
                    have hxa := hx a hal
                    obtain ⟨q, hq⟩ : ∃ q : Nat, nth xs a = (q : Int) := ⟨(nth xs a).toNat, by omega⟩
                    rw [hq] at ci hxa
                    have hq10 : q < 2 ^ 10 := by omega
                    have hor := or_bit (b := q) (k := b) (by omega) (by omega)
                    have hqb : q ||| 2 ^ b < 1024 := by
                      have := or_lt (a := q) (b := 2 ^ b) hq10 (two_lt (show b < 10 by omega)); omega
                    have ⟨⟨zV, cV, dV⟩, fV, gV⟩ := hV
                    have HN : Hid (∀ W', Below w5.heap.size w5 W' → OrdInv (W'.setCell ⟨w1.heap.size, a, none⟩ (.int .i64 ((q ||| 2 ^ b : Nat) : Int))) w.heap.size w1.heap.size w2.heap.size w3.heap.size p (L + 4 + 4 * k + a * (2 * k) + 2 * (b + 1)) k (.slice al ls.length cl) (.slice ar rs.length cr) ls rs ∧ Drawn w (W'.setCell ⟨w1.heap.size, a, none⟩ (.int .i64 ((q ||| 2 ^ b : Nat) : Int))) p) := fun W' hb =>
                      ⟨OrdInv.put hl ho hx hV hZ hA hB hc hb hal _ hqb (by omega) (by omega) (by omega) (by omega) (by omega), (HD6.out.below hb).set ⟨w1.heap.size, a, none⟩ _ (show w.heap.size ≤ w1.heap.size by omega)⟩
                    have HOR := Lib.hid hor
                    clear hl ho hx hV hZ hA hB hc hxa hq hor
                    go_wp2_with fail
                    go_region
                    all_goals
                      go_wp2_with fail
                      rw [HOR.out]
                      go_roundw
                      case rel => exact ⟨b + 1, by omega, by go_num, (HN.out w5 (Below.refl _ _)).1.below (Below.refl _ _).drew, (HN.out w5 (Below.refl _ _)).2.below (Below.refl _ _).drew⟩
                      case measure => simp [intOf]; omega
                  · go_wp2_with fail
                    go_roundw
                    case rel => exact ⟨b + 1, by omega, by go_num, HI6.out.mono (by omega), HD6.out⟩
                    case measure => simp [intOf]; omega
                · have hab' : ¬ ((a : Int) < (b : Int)) := by omega
                  have HI2 := Lib.hid hI
                  have HD2 := Lib.hid hd
                  clear hI hd
                  go_wp2_with fail
                  go_quiet (fail)
                  go_wp2_with fail
                  have HI3 := Lib.hid (HI2.out.drawnN (k := nq) (c' := L + 4 + 4 * k + a * (2 * k) + 2 * (b + 1)) (by omega))
                  have HD3 := Lib.hid (HD2.out.below (Joins.below_draws wr.heap.size wr nq))
                  go_roundw
                  case rel => exact ⟨b + 1, by omega, by go_num, HI3.out, HD3.out⟩
                  case measure => simp [intOf]; omega
              · have hk1 : (0 : Int) < kd := by omega
                obtain ⟨xs0, hl0, ho0, hx0, hV0, hZ0, hA0, hB0, hc0⟩ := hI.ex
                obtain ⟨g1, o1, e1, hg1, hcr⟩ := hB0.rd.cell a (by have := HL2.out; omega)
                obtain ⟨g2, o2, e2, hg2, hcl⟩ := hA0.rd.cell b (by have := HL1.out; omega)
                have E1 := Lib.hid e1
                have E2 := Lib.hid e2
                subst e1 e2
                have a9 : (a : Int) < (rs.length : Int) := by have := HL2.out; omega
                have b9 : (b : Int) < (ls.length : Int) := by have := HL1.out; omega
                have HI2 := Lib.hid hI
                have HD2 := Lib.hid hd
                clear hI hd ho0 hx0 hV0 hZ0 hA0 hB0 hc0 hl0
                cases hlt9 : decide (nth rs a < nth ls b)
                · go_wp2_with fail
                  go_quiet (fail)
                  go_wp2_with fail
                  have HI3 := Lib.hid (HI2.out.drawnN (k := nq) (c' := L + 4 + 4 * k + a * (2 * k) + 2 * (b + 1)) (by omega))
                  have HD3 := Lib.hid (HD2.out.below (Joins.below_draws wr.heap.size wr nq))
                  go_roundw
                  case rel => exact ⟨b + 1, by omega, by go_num, HI3.out, HD3.out⟩
                  case measure => simp [intOf]; omega
                · go_wp2_with fail
                  go_quiet (fail)
                  obtain ⟨xs, hl, ho, hx, hV, hZ, hA, hB, hc⟩ := HI2.out.ex
                  have ⟨ci, fi⟩ := ho.at' hl.symm (i := a) (by omega)
                  have hxa := hx a hal
                  obtain ⟨q, hq⟩ : ∃ q : Nat, nth xs a = (q : Int) := ⟨(nth xs a).toNat, by omega⟩
                  rw [hq] at ci hxa
                  have hq10 : q < 2 ^ 10 := by omega
                  have hor := or_bit (b := q) (k := b) (by omega) (by omega)
                  have hqb : q ||| 2 ^ b < 1024 := by
                    have := or_lt (a := q) (b := 2 ^ b) hq10 (two_lt (show b < 10 by omega)); omega
                  have ⟨⟨zV, cV, dV⟩, fV, gV⟩ := hV
                  have HN : Hid (∀ W', Below wr.heap.size wr W' → OrdInv (W'.setCell ⟨w1.heap.size, a, none⟩ (.int .i64 ((q ||| 2 ^ b : Nat) : Int))) w.heap.size w1.heap.size w2.heap.size w3.heap.size p (L + 4 + 4 * k + a * (2 * k) + 2 * (b + 1)) k (.slice (some ⟨g2, o2, none⟩) ls.length cl) (.slice (some ⟨g1, o1, none⟩) rs.length cr) ls rs ∧ Drawn w (W'.setCell ⟨w1.heap.size, a, none⟩ (.int .i64 ((q ||| 2 ^ b : Nat) : Int))) p) := fun W' hb =>
                    ⟨OrdInv.put hl ho hx hV hZ hA hB hc hb hal _ hqb (by omega) (by omega) (by omega) (by omega) (by omega), (HD2.out.below hb).set ⟨w1.heap.size, a, none⟩ _ (show w.heap.size ≤ w1.heap.size by omega)⟩
                  have HOR := Lib.hid hor
                  clear hl ho hx hV hZ hA hB hc hxa hq hor
                  go_wp2_with fail
                  go_region
                  all_goals
                    go_wp2_with fail
                    rw [HOR.out]
                    go_roundw
                    case rel => exact ⟨b + 1, by omega, by go_num, (HN.out _ (by first | exact Joins.below_draws _ _ _ | exact (Joins.below_draws _ _ _).trans ((Joins.below_draws _ _ _).mono (by simp)))).1, (HN.out _ (by first | exact Joins.below_draws _ _ _ | exact (Joins.below_draws _ _ _).trans ((Joins.below_draws _ _ _).mono (by simp)))).2⟩
                    case measure => simp [intOf]; omega
            · obtain rfl : b = k := by omega
              have HI2 := Lib.hid hI
              have HD2 := Lib.hid hd
              clear hI hd
              go_wp2_with fail
              go_roundw
              case rel => exact ⟨a + 1, by omega, by go_num, HI2.out.mono (by rw [Nat.add_mul]; omega), HD2.out⟩
              case measure => simp [intOf]; omega
        · obtain rfl : a = k := by omega
          have hkk : a * (2 * a) ≤ 200 := Nat.le_trans (Nat.mul_le_mul (show a ≤ 10 by omega) (show 2 * a ≤ 20 by omega)) (by omega)
          obtain ⟨xs, hl, ho, hx, hV, hZ, hA, hB, hc⟩ := hI.ex
          have HL := Lib.hid hl
          have HO := Lib.hid ho
          have HX := Lib.hid hx
          have HZ := Lib.hid hZ
          have HC := Lib.hid hc
          have HD := Lib.hid hd
          have ⟨⟨zV, cV, dV⟩, fV, gV⟩ := hV
          have ⟨⟨zZ, cZ, dZ⟩, fZ, gZ⟩ := hZ
          obtain ⟨W6, hW6⟩ : ∃ x : World, x = wr := ⟨_, rfl⟩
          subst hW6
          clear hI hd hl ho hx hV hZ hA hB hc
          by_cases hk0 : kd = 0
          · subst hk0
            go_wp2_with fail
            have hnb : -9223372036854775808 ≤ (a : Int) ∧ (a : Int) ≤ 9223372036854775807 := by omega
            have HCL := Lib.hid (sCloseRelation_any (a : Int) (some ⟨w1.heap.size, 0, none⟩) xs a W6 hnb HO.out.rd)
            unfold GotO at HCL
            have HCN : Hid (cloN (a : Int) xs = ((cloL (a : Int) xs).length : Int)) := cloN_len (a : Int) xs
            have HCS : Hid (∀ k, k < (cloL (a : Int) xs).length → 0 ≤ nth (cloL (a : Int) xs) k ∧ nth (cloL (a : Int) xs) k < 1024) := cloL_small (fun k hk => HX.out k (by rw [HL.out] at hk; exact hk))
            have HCM : Hid ((cloL (a : Int) xs).length ≤ m) := Nat.le_trans (cloL_le (a : Int) xs) (by rw [HL.out]; exact hn)
            rw [HL.out, HCN.out] at HCL
            obtain ⟨ys, hys⟩ : ∃ ys, ys = cloL (a : Int) xs := ⟨_, rfl⟩
            rw [← hys] at HCL HCS HCM
            generalize relB (a : Int) xs = rb at HCL
            clear hys HCN
            refine HCL.out.mono ?_
            rintro e w7 ⟨a7, c7, rfl, ho7, hb7⟩
            have hs7 := hb7.size
            have hZ7 := HZ.out.below hb7
            have hC7 := HC.out.below hb7
            have hD7 := HD.out.below hb7
            have ⟨⟨zZ7, cZ7, dZ7⟩, fZ7, gZ7⟩ := hZ7
            have HO7 := Lib.hid ho7
            have HZ7 := Lib.hid hZ7
            have HC7 := Lib.hid hC7
            have HD7 := Lib.hid hD7
            clear hb7 ho7 hZ7 hC7 hD7 HCL
            go_wp2_with fail
            have R3 := (HZ7.out.set (.int .i64 (ys.length : Int)) (.slice a7 ys.length c7)).alloc (.cells #[.int .i64 (ys.length : Int), .slice a7 ys.length c7] 26)
            refine bodyPost_ret (v := .agg #[.int .i64 (ys.length : Int), .slice a7 ys.length c7]) (by have ⟨⟨_, q1, q2⟩, _, _⟩ := R3; simp [results, Try.results133, go_sem, q1, q2]) rfl ?_
            have hO9 := (((HO7.out.setBelow (p := ⟨w.heap.size, 0, none⟩) (show w.heap.size < W6.heap.size by omega) (.int .i64 (ys.length : Int))).setBelow (p := ⟨w.heap.size, 1, none⟩) (show w.heap.size < W6.heap.size by omega) (.slice a7 ys.length c7)).alloc (.cells #[.int .i64 (ys.length : Int), .slice a7 ys.length c7] 26)).mono (show w.heap.size ≤ W6.heap.size by omega)
            have hC9 := ((((HC7.out.set ⟨w.heap.size, 0, none⟩ (.int .i64 (ys.length : Int)) (show p < w.heap.size by omega)).set ⟨w.heap.size, 1, none⟩ (.slice a7 ys.length c7) (show p < w.heap.size by omega)).alloc (.cells #[.int .i64 (ys.length : Int), .slice a7 ys.length c7] 26)).mono (show L + 4 + 4 * a + a * (2 * a) ≤ L + 400 by omega))
            have hD9 := ((HD7.out.set ⟨w.heap.size, 0, none⟩ (.int .i64 (ys.length : Int)) (Nat.le_refl _)).set ⟨w.heap.size, 1, none⟩ (.slice a7 ys.length c7) (Nat.le_refl _)).alloc (.cells #[.int .i64 (ys.length : Int), .slice a7 ys.length c7] 26)
            exact ⟨a7, c7, ys, rfl, hO9, HCM.out, HCS.out, hC9, hD9⟩
          · have hk1 : (0 : Int) < kd := by omega
            go_wp2_with fail
            have R3 := HZ.out.set (.int .i64 (a : Int)) (.slice (some ⟨w1.heap.size, 0, none⟩) a a)
            refine bodyPost_ret (v := .agg #[.int .i64 (a : Int), .slice (some ⟨w1.heap.size, 0, none⟩) a a]) (by have ⟨⟨_, q1, q2⟩, _, _⟩ := R3; simp [results, Try.results133, go_sem, q1, q2]) rfl ?_
            have hO9 := ((HO.out.setBelow (p := ⟨w.heap.size, 0, none⟩) (show w.heap.size < w1.heap.size by omega) (.int .i64 (a : Int))).setBelow (p := ⟨w.heap.size, 1, none⟩) (show w.heap.size < w1.heap.size by omega) (.slice (some ⟨w1.heap.size, 0, none⟩) a a)).mono (show w.heap.size ≤ w1.heap.size by omega)
            have hC9 := ((HC.out.set ⟨w.heap.size, 0, none⟩ (.int .i64 (a : Int)) (show p < w.heap.size by omega)).set ⟨w.heap.size, 1, none⟩ (.slice (some ⟨w1.heap.size, 0, none⟩) a a) (show p < w.heap.size by omega)).mono (show L + 4 + 4 * a + a * (2 * a) ≤ L + 400 by omega)
            have hD9 := (HD.out.set ⟨w.heap.size, 0, none⟩ (.int .i64 (a : Int)) (Nat.le_refl _)).set ⟨w.heap.size, 1, none⟩ (.slice (some ⟨w1.heap.size, 0, none⟩) a a) (Nat.le_refl _)
            exact ⟨some ⟨w1.heap.size, 0, none⟩, a, xs, by rw [HL.out], by rw [HL.out]; exact hO9, by rw [HL.out]; exact hn, fun k hk => HX.out k (by rw [HL.out] at hk; exact hk), hC9, hD9⟩

/-- four numbers that were written out -/
theorem rd_lit4 (w : World) (x0 x1 x2 x3 : Int) (t : TypeId) : Rd (w.alloc (.cells #[.int .i64 x0, .int .i64 x1, .int .i64 x2, .int .i64 x3] t)) (some ⟨w.heap.size, 0, none⟩) [x0, x1, x2, x3] :=
  ⟨by simp, fun k hk => ⟨w.heap.size, 0, rfl, by simp, by
    have : k = 0 ∨ k = 1 ∨ k = 2 ∨ k = 3 := by simp at hk; omega
    rcases this with rfl | rfl | rfl | rfl <;> simp [nth]⟩⟩
theorem lit4_small {n k : Nat} (hn : n ≤ 10) (hk : k < 4) : -1 ≤ nth [-1, 0, 1, IntKind.i64.wrap (2 ^ n)] k ∧ nth [-1, 0, 1, IntKind.i64.wrap (2 ^ n)] k ≤ 1024 := by
  have h1 : (2 : Int) ^ n ≤ 1024 ∧ 0 ≤ (2 : Int) ^ n := by
    have h := Nat.pow_le_pow_right (show 0 < 2 by omega) hn
    have e : ((2 ^ n : Nat) : Int) = (2 : Int) ^ n := by simp
    rw [← e]
    have h9 : (2 : Nat) ^ 10 = 1024 := by decide
    rw [h9] at h
    generalize 2 ^ n = z at h
    omega
  have h2 : IntKind.i64.wrap (2 ^ n) = 2 ^ n := wrap64_small _ (by omega) (by omega)
  rw [h2]
  have : k = 0 ∨ k = 1 ∨ k = 2 ∨ k = 3 := by omega
  rcases this with rfl | rfl | rfl | rfl <;> simp [nth] <;> omega
/-- an order, or something near one, that was drawn -/
def AnyO (w : World) (p L : Nat) (e : Ending) (w' : World) : Prop :=
  ∃ (n : Int) (a : Option Addr) (cap : Nat) (xs : List Int), e = .returned (.agg #[.int .i64 n, .slice a xs.length cap]) ∧ OwnI w' w.heap.size (.slice a xs.length cap) xs ∧ xs.length ≤ 10 ∧ -1 ≤ n ∧ n ≤ 11 ∧ (∀ k, k < xs.length → -1 ≤ nth xs k ∧ nth xs k ≤ 1024) ∧ Cur w' p L ∧ Drawn w w' p
theorem any_end {w W : World} {p L L' : Nat} {n : Int} {a : Option Addr} {c : Nat} {xs : List Int} (ho : OwnI W (w.heap.size + 1) (.slice a xs.length c) xs) (hl : xs.length ≤ 10) (h0 : -1 ≤ n) (h1 : n ≤ 11) (hx : ∀ k, k < xs.length → -1 ≤ nth xs k ∧ nth xs k ≤ 1024)
    (hc : Cur W p L) (hL : L ≤ L') (hp : p < w.heap.size) (hd : Drawn w W p) :
    AnyO w p L' (.returned (.agg #[.int .i64 n, .slice a xs.length c])) ((W.setCell ⟨w.heap.size, 0, none⟩ (.int .i64 n)).setCell ⟨w.heap.size, 1, none⟩ (.slice a xs.length c)) :=
  ⟨n, a, c, xs, rfl, ((ho.setBelow (p := ⟨w.heap.size, 0, none⟩) (show w.heap.size < w.heap.size + 1 by omega) _).setBelow (p := ⟨w.heap.size, 1, none⟩) (show w.heap.size < w.heap.size + 1 by omega) _).mono (by omega), hl, h0, h1, hx,
    ((hc.set ⟨w.heap.size, 0, none⟩ _ hp).set ⟨w.heap.size, 1, none⟩ _ hp).mono hL, (hd.set ⟨w.heap.size, 0, none⟩ _ (Nat.le_refl _)).set ⟨w.heap.size, 1, none⟩ _ (Nat.le_refl _)⟩
set_option maxRecDepth 100000 in
set_option maxHeartbeats 2000000 in
theorem anyOrder_any (p L m : Nat) (w : World) (h : Cur w p L) (hL : L ≤ 600000000) (hm : m ≤ 10) :
    Calls Try.prog 68 #[.pointer (some ⟨p, 0, none⟩), .int .i64 (m : Int)] w (AnyO w p (L + 1000)) := by
  have hpw := h.lt
  have ha : Below w.heap.size w (w.alloc (.cells #[.int .i64 0, .slice none 0 0] 26)) := (by repeat (first | exact Below.refl _ _ | assumption | refine Below.alloc ?_ (by first | exact Nat.le_refl _ | (simp only [World.size_alloc, World.size_setCell, World.size_drew]; omega) | omega) _ | refine Below.setCell ?_ (by first | exact Nat.le_refl _ | (simp only [World.size_alloc, World.size_setCell, World.size_drew]; omega) | omega) _ | refine Below.drew ?_))
  have H := Lib.hid (h.below ha)
  have HR := Lib.hid (Var2.new w (.int .i64 0) (.slice none 0 0) 26)
  clear h
  unfold AnyO
  go_enter Try.func68, Try.ntmps68
  go_wp2_with fail
  refine (order_any p L m _ H.out (by omega) hm).mono ?_
  rintro e w1 ⟨a1, c1, xs, rfl, ho1, hl1, hx1, hc1, hd1⟩
  have hs1 : w.heap.size + 1 ≤ w1.heap.size := by have := hd1.size; simpa using this
  have ba1 : Below w1.heap.size w1 (w1.alloc (.cells #[.int .i64 (xs.length : Int), .slice a1 xs.length c1] 26)) := (by repeat (first | exact Below.refl _ _ | assumption | refine Below.alloc ?_ (by first | exact Nat.le_refl _ | (simp only [World.size_alloc, World.size_setCell, World.size_drew]; omega) | omega) _ | refine Below.setCell ?_ (by first | exact Nat.le_refl _ | (simp only [World.size_alloc, World.size_setCell, World.size_drew]; omega) | omega) _ | refine Below.drew ?_))
  have hc1' := hc1.below ba1
  have HD1 := Lib.hid (hd1.of_alloc.below ba1)
  have HR1 := Lib.hid ((HR.out.drawn hd1 (by omega)).below ba1)
  have HO1 := Lib.hid ((ho1.mono (B' := w.heap.size + 1) (by simp)).below ba1 (Nat.le_refl _))
  have HB1 := Lib.hid (Var2.new w1 (.int .i64 (xs.length : Int)) (.slice a1 xs.length c1) 26)
  have HX1 := Lib.hid hx1
  have HC1 := Lib.hid hc1'
  have hgne : (Value.slice a1 xs.length c1).ownBlock = none ∨ (Value.slice a1 xs.length c1).ownBlock ≠ some w1.heap.size := by
    cases e : (Value.slice a1 xs.length c1).ownBlock with
    | none => exact .inl rfl
    | some g => exact .inr (by have := (ho1.lt g e).2; simp; omega)
  clear hc1 hc1' hd1 ho1 hx1 ba1 H HR
  go_wp2_with fail
  refine (pick_any p (L + 400) 14 _ HC1.out (by omega) (by omega)).mono ?_
  rintro e w2 ⟨r, rfl, hr0, hr1, hc2, hd2⟩
  have hs2 : w1.heap.size + 1 ≤ w2.heap.size := by have := hd2.size; simpa using this
  have HC2 := Lib.hid hc2
  have HD2 := Lib.hid (HD1.out.trans hd2)
  have HR2 := Lib.hid (HR1.out.drawn hd2 (by omega))
  have HO2 := Lib.hid (HO1.out.drawn hd2 (by omega))
  have HB2 := Lib.hid (HB1.out.drawn hd2 (by omega))
  have ⟨⟨zR, cR, dR⟩, fR, gR⟩ := HR2.out
  have ⟨⟨zB, cB, dB⟩, fB, gB⟩ := HB2.out
  clear hc2 hd2 HC1 HD1 HR1 HO1 HB1
  cases e0 : (r == 0)
  · cases e1 : (r == 1)
    · cases e2 : (r == 2)
      · cases e3 : (r == 3)
        · go_wp2_with fail
          have R3 := HR2.out.set (.int .i64 (xs.length : Int)) (.slice a1 xs.length c1)
          refine bodyPost_ret (v := .agg #[.int .i64 (xs.length : Int), .slice a1 xs.length c1]) (by have ⟨⟨_, q1, q2⟩, _, _⟩ := R3; simp [results, Try.results68, go_sem, q1, q2]) rfl ?_
          exact any_end HO2.out (by omega) (by omega) (by omega) (fun k hk => by have := HX1.out k hk; omega) HC2.out (by omega) hpw HD2.out
        · go_wp2_with fail
          refine (order_any p (L + 402) 10 _ HC2.out (by omega) (by omega)).mono ?_
          rintro e w3 ⟨a3, c3, ys, rfl, ho3, hl3, hx3, hc3, hd3⟩
          have hs3 := hd3.size
          have hR3 := HR2.out.drawn hd3 (by omega)
          have hD3 := HD2.out.trans hd3
          have ⟨⟨zR3, cR3, dR3⟩, fR3, gR3⟩ := hR3
          have HO3 := Lib.hid (ho3.mono (B' := w.heap.size + 1) (by omega))
          have HX3 := Lib.hid hx3
          have HR3 := Lib.hid hR3
          have HC3 := Lib.hid hc3
          have HD3 := Lib.hid hD3
          clear ho3 hx3 hR3 hD3 hc3 hd3
          go_wp2_with fail
          have R3 := HR3.out.set (.int .i64 (ys.length : Int)) (.slice a3 ys.length c3)
          refine bodyPost_ret (v := .agg #[.int .i64 (ys.length : Int), .slice a3 ys.length c3]) (by have ⟨⟨_, q1, q2⟩, _, _⟩ := R3; simp [results, Try.results68, go_sem, q1, q2]) rfl ?_
          exact any_end HO3.out (by omega) (by omega) (by omega) (fun k hk => by have := HX3.out k hk; omega) HC3.out (by omega) hpw HD3.out
      · by_cases hl0 : 0 < xs.length
        · have hl0' : (0 : Int) < (xs.length : Int) := by omega
          obtain ⟨g, rfl⟩ : ∃ g, a1 = some ⟨g, 0, none⟩ := by
            rcases HO2.out.2 with ⟨e, h⟩ | ⟨g, c, cur, e, _⟩
            · omega
            · simp only [Value.slice.injEq] at e
              exact ⟨g, e.1⟩
          have hg1 := HO2.out.lt g rfl
          have hg2 : g ≠ w1.heap.size := by
            rcases hgne with h | h
            · cases h
            · exact fun e => h (by rw [← e]; rfl)
          go_wp2_with fail
          go_region_held3 (fun w' => w'.cell? ⟨w1.heap.size, 0, none⟩ = some (.int .i64 (xs.length : Int)) ∧ w'.cell? ⟨w1.heap.size, 1, none⟩ = some (.slice (some ⟨g, 0, none⟩) xs.length c1))
            (first | exact ⟨QB.1.2.1, QB.1.2.2⟩ | exact ⟨QA.1.2.1, QA.1.2.2⟩ | go_keep)
            (first
              | (have _g := HP1; go_at_call 135; refine (among_any p (L + 404) (some ⟨wa.heap.size, 0, none⟩) [-1, 0, 1, IntKind.i64.wrap (2 ^ xs.length)] 4 4 _ (HCA.out.alloc _) (by omega) (rd_lit4 wa (-1) 0 1 _ _) rfl (by omega) (by omega) (fun b off e => (by simp only [Option.some.injEq, Addr.mk.injEq] at e; omega))).mono ?_; rintro e wb ⟨kk, hkk, rfl, hcb, hdb⟩; have QB := (QA.alloc (.cells #[.int .i64 (-1), .int .i64 0, .int .i64 1, .int .i64 (IntKind.i64.wrap (2 ^ xs.length))] 3)).drawn hdb (by omega); have QRB := Lib.hid ((QRA.out.alloc (.cells #[.int .i64 (-1), .int .i64 0, .int .i64 1, .int .i64 (IntKind.i64.wrap (2 ^ xs.length))] 3)).drawn hdb (by omega)); have HCB := Lib.hid hcb; have HDB := Lib.hid ((HDA.out.alloc (.cells #[.int .i64 (-1), .int .i64 0, .int .i64 1, .int .i64 (IntKind.i64.wrap (2 ^ xs.length))] 3)).trans hdb); have hob := (HOA.out.alloc (.cells #[.int .i64 (-1), .int .i64 0, .int .i64 1, .int .i64 (IntKind.i64.wrap (2 ^ xs.length))] 3)).drawn hdb (by omega); have HOB := Lib.hid hob; have ⟨cib, fib⟩ := hob.at' rfl (i := qn) hqn; clear hcb hdb hob)
              | (have _g := HP2; go_at_call 135; refine (among_any p (L + 404) (some ⟨w2.heap.size, 0, none⟩) [-1, 0, 1, IntKind.i64.wrap (2 ^ xs.length)] 4 4 _ HCA.out (by omega) HP2.out rfl (by omega) (by omega) (fun b off e => (by simp only [Option.some.injEq, Addr.mk.injEq] at e; omega))).mono ?_; rintro e wb ⟨kk, hkk, rfl, hcb, hdb⟩; have QB := QA.drawn hdb (by omega); have QRB := Lib.hid (QRA.out.drawn hdb (by omega)); have HCB := Lib.hid hcb; have HDB := Lib.hid (HDA.out.trans hdb); have hob := HOA.out.drawn hdb (by omega); have HOB := Lib.hid hob; have ⟨cib, fib⟩ := hob.at' rfl (i := qn) hqn; clear hcb hdb hob)
              | (have _g := HP2; go_at_call 135; refine (among_any p (L + 404) (some ⟨w2.heap.size, 0, none⟩) [-1, 0, 1, IntKind.i64.wrap (2 ^ xs.length)] 4 4 _ (HCA.out.below (Joins.below_draws _ _ _)) (by omega) (HP2.out.below (Joins.below_draws _ _ _)) rfl (by omega) (by omega) (fun b off e => (by simp only [Option.some.injEq, Addr.mk.injEq] at e; omega))).mono ?_; rintro e wb ⟨kk, hkk, rfl, hcb, hdb⟩; have QB := (QA.below (Joins.below_draws _ _ _)).drawn hdb (by omega); have QRB := Lib.hid ((QRA.out.below (Joins.below_draws _ _ _)).drawn hdb (by omega)); have HCB := Lib.hid hcb; have HDB := Lib.hid ((HDA.out.below (Joins.below_draws _ _ _)).trans hdb); have hob := (HOA.out.below (Joins.below_draws _ _ _) (Nat.le_refl _)).drawn hdb (by omega); have HOB := Lib.hid hob; have ⟨cib, fib⟩ := hob.at' rfl (i := qn) hqn; clear hcb hdb hob)
              | (go_at_call 75; refine (pick_any p (L + 402) (xs.length : Int) _ (HC2.out.below (Joins.below_draws _ _ _)) (by omega) (by omega)).mono ?_; rintro e wa ⟨q, rfl, hq0, hq1, hca, hda⟩; obtain ⟨qn, rfl⟩ := Int.eq_ofNat_of_zero_le hq0; have hqn : qn < xs.length := (by omega); have hqi : (qn : Int) < (xs.length : Int) := (by omega); have hsa : w2.heap.size ≤ wa.heap.size := (by have := hda.size; simp at this; omega); have HDA := Lib.hid ((HD2.out.below (Joins.below_draws _ _ _)).trans hda); have HOA := Lib.hid ((HO2.out.below (Joins.below_draws _ _ _) (Nat.le_refl _)).drawn hda (by omega)); have HCA := Lib.hid hca; have QA := (HB2.out.below (Joins.below_draws _ _ _)).drawn hda (by omega); have QRA := Lib.hid ((HR2.out.below (Joins.below_draws _ _ _)).drawn hda (by omega)); have HP1 := Lib.hid hsa; clear hca hda hq0 hq1)
              | (go_at_call 75; refine (pick_any p (L + 402) (xs.length : Int) _ (HC2.out.below ((Below.refl w2.heap.size w2).alloc (Nat.le_refl _) (.cells #[.int .i64 (-1), .int .i64 0, .int .i64 1, .int .i64 (IntKind.i64.wrap (2 ^ xs.length))] 3))) (by omega) (by omega)).mono ?_; rintro e wa ⟨q, rfl, hq0, hq1, hca, hda⟩; obtain ⟨qn, rfl⟩ := Int.eq_ofNat_of_zero_le hq0; have hqn : qn < xs.length := (by omega); have hqi : (qn : Int) < (xs.length : Int) := (by omega); have hsa : w2.heap.size ≤ wa.heap.size := (by have := hda.size; simp at this; omega); have HDA := Lib.hid ((HD2.out.below ((Below.refl w2.heap.size w2).alloc (Nat.le_refl _) (.cells #[.int .i64 (-1), .int .i64 0, .int .i64 1, .int .i64 (IntKind.i64.wrap (2 ^ xs.length))] 3))).trans hda); have HOA := Lib.hid ((HO2.out.below ((Below.refl w2.heap.size w2).alloc (Nat.le_refl _) (.cells #[.int .i64 (-1), .int .i64 0, .int .i64 1, .int .i64 (IntKind.i64.wrap (2 ^ xs.length))] 3)) (Nat.le_refl _)).drawn hda (by omega)); have HCA := Lib.hid hca; have QA := (HB2.out.below ((Below.refl w2.heap.size w2).alloc (Nat.le_refl _) (.cells #[.int .i64 (-1), .int .i64 0, .int .i64 1, .int .i64 (IntKind.i64.wrap (2 ^ xs.length))] 3))).drawn hda (by omega); have QRA := Lib.hid ((HR2.out.below ((Below.refl w2.heap.size w2).alloc (Nat.le_refl _) (.cells #[.int .i64 (-1), .int .i64 0, .int .i64 1, .int .i64 (IntKind.i64.wrap (2 ^ xs.length))] 3))).drawn hda (by omega)); have HP2 := Lib.hid (((rd_lit4 w2 (-1) 0 1 (IntKind.i64.wrap (2 ^ xs.length)) 3)).drawn hda (fun b off e => (by simp only [Option.some.injEq, Addr.mk.injEq] at e; omega))); clear hca hda hq0 hq1)
              | (go_at_call 75; refine (pick_any p (L + 402) (xs.length : Int) _ (HC2.out.below (((Below.refl w2.heap.size w2).alloc (Nat.le_refl _) (.cells #[.int .i64 (-1), .int .i64 0, .int .i64 1, .int .i64 (IntKind.i64.wrap (2 ^ xs.length))] 3)).trans (Joins.below_draws _ _ _))) (by omega) (by omega)).mono ?_; rintro e wa ⟨q, rfl, hq0, hq1, hca, hda⟩; obtain ⟨qn, rfl⟩ := Int.eq_ofNat_of_zero_le hq0; have hqn : qn < xs.length := (by omega); have hqi : (qn : Int) < (xs.length : Int) := (by omega); have hsa : w2.heap.size ≤ wa.heap.size := (by have := hda.size; simp at this; omega); have HDA := Lib.hid ((HD2.out.below (((Below.refl w2.heap.size w2).alloc (Nat.le_refl _) (.cells #[.int .i64 (-1), .int .i64 0, .int .i64 1, .int .i64 (IntKind.i64.wrap (2 ^ xs.length))] 3)).trans (Joins.below_draws _ _ _))).trans hda); have HOA := Lib.hid ((HO2.out.below (((Below.refl w2.heap.size w2).alloc (Nat.le_refl _) (.cells #[.int .i64 (-1), .int .i64 0, .int .i64 1, .int .i64 (IntKind.i64.wrap (2 ^ xs.length))] 3)).trans (Joins.below_draws _ _ _)) (Nat.le_refl _)).drawn hda (by omega)); have HCA := Lib.hid hca; have QA := (HB2.out.below (((Below.refl w2.heap.size w2).alloc (Nat.le_refl _) (.cells #[.int .i64 (-1), .int .i64 0, .int .i64 1, .int .i64 (IntKind.i64.wrap (2 ^ xs.length))] 3)).trans (Joins.below_draws _ _ _))).drawn hda (by omega); have QRA := Lib.hid ((HR2.out.below (((Below.refl w2.heap.size w2).alloc (Nat.le_refl _) (.cells #[.int .i64 (-1), .int .i64 0, .int .i64 1, .int .i64 (IntKind.i64.wrap (2 ^ xs.length))] 3)).trans (Joins.below_draws _ _ _))).drawn hda (by omega)); have HP2 := Lib.hid (((rd_lit4 w2 (-1) 0 1 (IntKind.i64.wrap (2 ^ xs.length)) 3).below (Joins.below_draws _ _ _)).drawn hda (fun b off e => (by simp only [Option.some.injEq, Addr.mk.injEq] at e; omega))); clear hca hda hq0 hq1))
          all_goals
            have hz0 : -1 ≤ nth [-1, 0, 1, IntKind.i64.wrap (2 ^ xs.length)] kk ∧ nth [-1, 0, 1, IntKind.i64.wrap (2 ^ xs.length)] kk ≤ 1024 := lit4_small (show xs.length ≤ 10 by omega) hkk
            have hsb := HDB.out.size
            generalize nth [-1, 0, 1, IntKind.i64.wrap (2 ^ xs.length)] kk = z at hz0
            have hput := HOB.out.put rfl qn z
            have HP := Lib.hid hput
            have hQ : Hid (Var2 (wb.setCell ⟨g, qn, none⟩ (.int .i64 z)) w.heap.size (.int .i64 0) (.slice none 0 0)) := QRB.out.other (p := ⟨g, qn, none⟩) _ (show w.heap.size ≠ g by omega)
            have hQb := QB.other (p := ⟨g, qn, none⟩) (.int .i64 z) (show w1.heap.size ≠ g from fun e => hg2 e.symm)
            have ⟨⟨zR3, cR3, dR3⟩, fR3, gR3⟩ := hQ.out
            have ⟨⟨zB3, cB3, dB3⟩, fB3, gB3⟩ := hQb
            have HL9 : Hid ((xs.set qn z).length = xs.length) := by simp [Hid]
            have HX9 : Hid (∀ k, k < (xs.set qn z).length → -1 ≤ nth (xs.set qn z) k ∧ nth (xs.set qn z) k ≤ 1024) := fun j hj => by
              rw [nth_set hqn]
              split
              · exact hz0
              · have := HX1.out j (by simpa using hj); omega
            clear hput
            go_wp2_with fail
            have R3 := hQ.out.set (.int .i64 (xs.length : Int)) (.slice (some ⟨g, 0, none⟩) xs.length c1)
            refine bodyPost_ret (v := .agg #[.int .i64 (xs.length : Int), .slice (some ⟨g, 0, none⟩) xs.length c1]) (by have ⟨⟨_, q1, q2⟩, _, _⟩ := R3; simp [results, Try.results68, go_sem, q1, q2]) rfl ?_
            have h9 := any_end (p := p) (L := L + 406) (L' := L + 1000) (n := (xs.length : Int)) (W := wb.setCell ⟨g, qn, none⟩ (.int .i64 z)) (a := some ⟨g, 0, none⟩) (c := c1) (xs := xs.set qn z) (w := w) (by rw [HL9.out]; exact HP.out.1) (by rw [HL9.out]; omega) (by omega) (by omega) HX9.out (HCB.out.set ⟨g, qn, none⟩ _ (show p < g by omega)) (by omega) hpw (HDB.out.set ⟨g, qn, none⟩ _ (show w.heap.size ≤ g by omega))
            rw [HL9.out] at h9
            exact h9
        · have hl0' : ¬ ((0 : Int) < (xs.length : Int)) := by omega
          go_wp2_with fail
          have R3 := HR2.out.set (.int .i64 (xs.length : Int)) (.slice a1 xs.length c1)
          refine bodyPost_ret (v := .agg #[.int .i64 (xs.length : Int), .slice a1 xs.length c1]) (by have ⟨⟨_, q1, q2⟩, _, _⟩ := R3; simp [results, Try.results68, go_sem, q1, q2]) rfl ?_
          exact any_end HO2.out (by omega) (by omega) (by omega) (fun k hk => by have := HX1.out k hk; omega) HC2.out (by omega) hpw HD2.out
    · have ba2 : Below w2.heap.size w2 (w2.alloc (.cells #[.int .i64 (-1), .int .i64 0, .int .i64 10, .int .i64 11] 3)) := (by repeat (first | exact Below.refl _ _ | assumption | refine Below.alloc ?_ (by first | exact Nat.le_refl _ | (simp only [World.size_alloc, World.size_setCell, World.size_drew]; omega) | omega) _ | refine Below.setCell ?_ (by first | exact Nat.le_refl _ | (simp only [World.size_alloc, World.size_setCell, World.size_drew]; omega) | omega) _ | refine Below.drew ?_))
      go_wp2_with fail
      refine (among_any p (L + 402) (some ⟨w2.heap.size, 0, none⟩) [-1, 0, 10, 11] 4 4 _ (HC2.out.below ba2) (by omega) (rd_lit4 w2 (-1) 0 10 11 _) rfl (by omega) (by omega) (fun b off e => by simp only [Option.some.injEq, Addr.mk.injEq] at e; omega)).mono ?_
      rintro e w3 ⟨k, hk, rfl, hc3, hd3⟩
      have hn0 : -1 ≤ nth [-1, 0, 10, 11] k ∧ nth [-1, 0, 10, 11] k ≤ 11 := by
        have : k = 0 ∨ k = 1 ∨ k = 2 ∨ k = 3 := by omega
        rcases this with rfl | rfl | rfl | rfl <;> simp [nth]
      generalize nth [-1, 0, 10, 11] k = z at hn0
      have hs3 : w2.heap.size + 1 ≤ w3.heap.size := by have := hd3.size; simpa using this
      have hR3 := (HR2.out.below ba2).drawn hd3 (by omega)
      have hB3 := (HB2.out.below ba2).drawn hd3 (by omega)
      have hO3 := (HO2.out.below ba2 (Nat.le_refl _)).drawn hd3 (by omega)
      have hD3 := (HD2.out.below ba2).trans hd3
      have ⟨⟨zR3, cR3, dR3⟩, fR3, gR3⟩ := hR3
      have ⟨⟨zB3, cB3, dB3⟩, fB3, gB3⟩ := hB3
      have HO3 := Lib.hid hO3
      have HR3 := Lib.hid hR3
      have HB3 := Lib.hid hB3
      have HC3 := Lib.hid hc3
      have HD3 := Lib.hid hD3
      clear hO3 hR3 hB3 hD3 hc3 hd3
      have HRb := Lib.hid (HR3.out.other (p := ⟨w1.heap.size, 0, none⟩) (.int .i64 z) (show w.heap.size ≠ w1.heap.size by omega))
      have HOb := Lib.hid (HO3.out.kept (grown_set w3 ⟨w1.heap.size, 0, none⟩ (.int .i64 z)) hgne)
      go_wp2_with fail
      have R3 := HRb.out.set (.int .i64 z) (.slice a1 xs.length c1)
      refine bodyPost_ret (v := .agg #[.int .i64 z, .slice a1 xs.length c1]) (by have ⟨⟨_, q1, q2⟩, _, _⟩ := R3; simp [results, Try.results68, go_sem, q1, q2]) rfl ?_
      exact any_end HOb.out (by omega) (by omega) (by omega) (fun k hk => by have := HX1.out k hk; omega) (HC3.out.set ⟨w1.heap.size, 0, none⟩ _ (show p < w1.heap.size by omega)) (by omega) hpw (HD3.out.set ⟨w1.heap.size, 0, none⟩ _ (show w.heap.size ≤ w1.heap.size by omega))
  · go_wp2_with fail
    refine (relation_any p (L + 402) m _ HC2.out (by omega) (by omega)).mono ?_
    rintro e w3 ⟨a3, c3, ys, rfl, ho3, hl3, hx3, hc3, hd3⟩
    have hs3 := hd3.size
    have hR3 := HR2.out.drawn hd3 (by omega)
    have hD3 := HD2.out.trans hd3
    have ⟨⟨zR3, cR3, dR3⟩, fR3, gR3⟩ := hR3
    have HO3 := Lib.hid (ho3.mono (B' := w.heap.size + 1) (by omega))
    have HX3 := Lib.hid hx3
    have HR3 := Lib.hid hR3
    have HC3 := Lib.hid hc3
    have HD3 := Lib.hid hD3
    clear ho3 hx3 hR3 hD3 hc3 hd3
    go_wp2_with fail
    have R3 := HR3.out.set (.int .i64 (ys.length : Int)) (.slice a3 ys.length c3)
    refine bodyPost_ret (v := .agg #[.int .i64 (ys.length : Int), .slice a3 ys.length c3]) (by have ⟨⟨_, q1, q2⟩, _, _⟩ := R3; simp [results, Try.results68, go_sem, q1, q2]) rfl ?_
    exact any_end HO3.out (by omega) (by omega) (by omega) (fun k hk => by have := HX3.out k hk; omega) HC3.out (by omega) hpw HD3.out

/-- an order that a law draws -/
def DrawnO (w : World) (e : Ending) (w' : World) : Prop :=
  ∃ (n : Int) (a : Option Addr) (cap : Nat) (xs : List Int), e = .returned (.agg #[.int .i64 n, .slice a xs.length cap]) ∧ OwnI w' w.heap.size (.slice a xs.length cap) xs ∧ xs.length ≤ 10 ∧ -1 ≤ n ∧ n ≤ 11 ∧ (∀ k, k < xs.length → -1 ≤ nth xs k ∧ nth xs k ≤ 1024) ∧ Below w.heap.size w w'
theorem cur_new {w : World} {a : Option Addr} {n cap : Nat} {t : TypeId} (hR : RdB w a n) (hn : n ≤ 1048576) : Cur (w.alloc (.cells #[.slice a n cap, .int .i64 0, .int .u64 0] t)) w.heap.size 0 :=
  ⟨a, n, cap, 0, 0, Var3.new w _ _ _ t, by omega, by omega, hn, hR.below ((Below.refl _ _).alloc (Nat.le_refl _) _), fun h0 b off e => by
    obtain ⟨b', off', e', hl, _⟩ := hR.cell 0 h0
    rw [e] at e'
    simp only [Option.some.injEq, Addr.mk.injEq] at e'
    omega⟩

set_option maxRecDepth 100000 in
theorem drMOA_any (a : Option Addr) (n cap : Nat) (w : World) (hR : RdB w a n) (hn : n ≤ 1048576) :
    Calls Try.prog 46 #[.slice a n cap] w (DrawnI w) := by
  go_enter Try.func46, Try.ntmps46
  go_wp2_with fail
  have hcur := cur_new (w := w) (cap := cap) (t := 80) hR hn
  refine (ascent_any w.heap.size 0 9 _ hcur (by omega) (by omega)).mono ?_
  rintro e w1 ⟨a1, c1, xs, rfl, ho1, hl1, hx1, hc1, hd1⟩
  have b1 : Below w.heap.size w w1 := hd1.of_alloc.bel (Nat.le_refl _) (Nat.le_refl _)
  have HO1 := Lib.hid (ho1.mono (B' := w.heap.size) (by simp))
  have HX1 := Lib.hid hx1
  clear hd1 hc1 ho1 hx1
  go_wp2_with fail
  go_ret
  exact ⟨a1, c1, xs, rfl, HO1.out, by omega, HX1.out, b1⟩

theorem totI_lim {xs : List Int} (h : ∀ j, j < xs.length → 0 ≤ nth xs j ∧ nth xs j ≤ 1000) : ∀ k, k ≤ xs.length → 0 ≤ totI xs k ∧ totI xs k ≤ 1000 * k
  | 0, _ => by simp [totI]
  | k+1, hk => by
    have := totI_lim h k (by omega)
    have := h k (by omega)
    rw [totI]; omega
theorem pSum_any (a : Option Addr) (xs : List Int) (n cap : Nat) (w : World) (hx : Rd w a xs) (hl : xs.length = n) (hn : n ≤ 1000) (h : ∀ j, j < xs.length → 0 ≤ nth xs j ∧ nth xs j ≤ 1000) :
    Calls Try.prog 55 #[.slice a n cap] w fun e w' => e = .returned (.int .i64 (totR xs)) ∧ Below w.heap.size w w' := by
  subst hl
  have HT := Lib.hid (totI_lim h)
  have HH := Lib.hid h
  have HS : Hid (∀ k, totI xs (k+1) = totI xs k + nth xs k) := fun k => rfl
  clear h
  rw [totR]
  go_enter Try.func55, Try.ntmps55
  go_wp2_with fail
  go_loopw [3, 8] (fun s i wr => ∃ k : Nat, k ≤ xs.length ∧ i = .int .i64 k ∧ s = .int .i64 (totI xs k) ∧ Below w.heap.size w wr) (fun _ i _ => xs.length - (intOf i).toNat)
  case atStart => exact ⟨0, Nat.zero_le _, rfl, rfl, Below.refl _ _⟩
  case round =>
    obtain ⟨k, hk, rfl, rfl, hb⟩ := hrel
    by_cases hlt : k < xs.length
    · have k1 : (k : Int) < (xs.length : Int) := by omega
      obtain ⟨b1, o1, rfl, hb1, hc1⟩ := (hx.below hb).cell k hlt
      have h1 := HT.out k hk
      have h2 := HH.out k hlt
      have HN := Lib.hid (HS.out k)
      generalize totI xs k = s at h1 HN ⊢
      generalize nth xs k = x at hc1 h2 HN
      go_wp2_with fail
      go_roundw
      case rel => exact ⟨k + 1, by omega, by go_num, val_int (by rw [HN.out]), hb⟩
      case measure => simp [intOf]; omega
    · obtain rfl : k = xs.length := by omega
      go_wp2_with fail
      go_ret
      exact ⟨rfl, hb⟩

def eqL (xs ys : List Int) : Bool := decide (xs = ys)
theorem eqL_self (xs : List Int) : eqL xs xs = true := by simp [eqL]

theorem pSame_any (a b : Option Addr) (xs ys : List Int) (ca cb : Nat) (w : World) (hx : Rd w a xs) (hy : Rd w b ys) :
    Calls Try.prog 13 #[.slice a xs.length ca, .slice b ys.length cb] w fun e w' => e = .returned (.bool (eqL xs ys)) ∧ Below w.heap.size w w' := by
  have hlx := hx.len
  have hly := hy.len
  by_cases hl : xs.length = ys.length
  · have hl' : ((xs.length : Int) != (ys.length : Int)) = false := by simp [hl]
    go_enter Try.func13, Try.ntmps13
    have HL := Lib.hid hl
    clear hl
    go_wp2_with fail
    go_loopw [13] (fun i wr => ∃ k : Nat, k ≤ xs.length ∧ i = .int .i64 k ∧ xs.take k = ys.take k ∧ Below w.heap.size w wr) (fun i _ => xs.length - (intOf i).toNat)
    case atStart => exact ⟨0, Nat.zero_le _, rfl, rfl, Below.refl _ _⟩
    case round =>
      obtain ⟨k, hk, rfl, htk, hb⟩ := hrel
      have HT := Lib.hid htk
      clear htk
      by_cases hlt : k < xs.length
      · have hlt' : k < ys.length := by rw [← HL.out]; exact hlt
        obtain ⟨b1, o1, rfl, hb1, hc1⟩ := (hx.below hb).cell k hlt
        obtain ⟨b2, o2, rfl, hb2, hc2⟩ := (hy.below hb).cell k hlt'
        have k1 : (k : Int) < (xs.length : Int) := by omega
        have k2 : (k : Int) < (ys.length : Int) := by omega
        by_cases he : nth xs k = nth ys k
        · have he' : (nth xs k != nth ys k) = false := by simp [he]
          have HE := Lib.hid he
          clear he
          go_wp2_with fail
          go_quiet (fail)
          go_wp2_with fail
          go_roundw
          case rel =>
            refine ⟨k + 1, by omega, by go_num, ?_, by exact hb.trans (Joins.below_draws _ _ _)⟩
            rw [List.take_succ_eq_append_getElem hlt, List.take_succ_eq_append_getElem hlt', HT.out, ← nth_get, ← nth_get, HE.out]
          case measure => simp [intOf]; omega
        · have he' : (nth xs k != nth ys k) = true := by simp [he]
          have hne : eqL xs ys = false := by
            simp only [eqL, decide_eq_false_iff_not]
            intro e
            subst e
            exact he rfl
          have HN := Lib.hid hne
          clear he hne
          go_wp2_with fail
          go_quiet (fail)
          go_wp2_with fail
          go_ret
          exact ⟨ret_bool HN.out.symm, hb.trans (Joins.below_draws _ _ _)⟩
      · go_wp2_with fail
        go_ret
        refine ⟨ret_bool ?_, hb⟩
        have h1 := HT.out
        rw [List.take_of_length_le (by omega), List.take_of_length_le (by rw [← HL.out]; omega)] at h1
        simp [eqL, h1]
  · have hl' : ((xs.length : Int) != (ys.length : Int)) = true := by simp; omega
    have hne : eqL xs ys = false := by
      simp only [eqL, decide_eq_false_iff_not]
      intro e
      exact hl (by rw [e])
    have HN := Lib.hid hne
    clear hl hne
    go_enter Try.func13, Try.ntmps13
    go_wp2_with fail
    go_ret
    exact ⟨ret_bool HN.out.symm, Below.refl _ _⟩

set_option maxRecDepth 100000 in
theorem pSameM_same (a b : Option Addr) (xss : List (List Int)) (ca cb : Nat) (w : World) (hx : RdC w a xss) (hy : RdC w b xss) (hn : xss.length ≤ 1048576) :
    Calls Try.prog 49 #[.agg #[.slice a xss.length ca], .agg #[.slice b xss.length cb]] w fun e w' => e = .returned (.bool true) ∧ Below w.heap.size w w' := by
  have b1 : Below w.heap.size w ((w.alloc (.cells #[.slice a xss.length ca] 62)).alloc (.cells #[.slice b xss.length cb] 62)) := (by repeat (first | exact Below.refl _ _ | assumption | refine Below.alloc ?_ (by first | exact Nat.le_refl _ | (simp only [World.size_alloc, World.size_setCell, World.size_drew]; omega) | omega) _ | refine Below.setCell ?_ (by first | exact Nat.le_refl _ | (simp only [World.size_alloc, World.size_setCell, World.size_drew]; omega) | omega) _ | refine Below.drew ?_))
  have HX := Lib.hid (hx.below b1)
  have HY := Lib.hid (hy.below b1)
  have HB := Lib.hid b1
  clear hx hy b1
  go_enter Try.func49, Try.ntmps49
  go_wp2_with fail
  obtain ⟨w1, hw1⟩ : ∃ x : World, x = (w.alloc (.cells #[.slice a xss.length ca] 62)).alloc (.cells #[.slice b xss.length cb] 62) := ⟨_, rfl⟩
  have hA : w.heap.size < w1.heap.size ∧ w1.cell? ⟨w.heap.size, 0, none⟩ = some (.slice a xss.length ca) := by rw [hw1]; exact ⟨by simp; omega, by simp⟩
  have hB : w.heap.size + 1 < w1.heap.size ∧ w1.cell? ⟨w.heap.size + 1, 0, none⟩ = some (.slice b xss.length cb) := by rw [hw1]; exact ⟨by simp, by simp⟩
  rw [← hw1] at HX HY HB ⊢
  have HA := Lib.hid hA
  have HC := Lib.hid hB
  clear hw1 hA hB
  go_loopw [16] (fun i wr => ∃ k : Nat, k ≤ xss.length ∧ i = .int .i64 k ∧ Below w1.heap.size w1 wr) (fun i _ => xss.length - (intOf i).toNat)
  case atStart => exact ⟨0, Nat.zero_le _, rfl, Below.refl _ _⟩
  case round =>
    obtain ⟨k, hk, rfl, hb⟩ := hrel
    by_cases hlt : k < xss.length
    · have k1 : (k : Int) < (xss.length : Int) := by omega
      have HT := Lib.hid hb
      have cA := (hb.cell (p := ⟨w.heap.size, 0, none⟩) HA.out.1).trans HA.out.2
      have cB := (hb.cell (p := ⟨w.heap.size + 1, 0, none⟩) HC.out.1).trans HC.out.2
      obtain ⟨g1, o1, a1, c1, rfl, hg1, hc1, hr1, hl1⟩ := (HX.out.below hb).row hlt
      obtain ⟨g2, o2, a2, c2, rfl, hg2, hc2, hr2, hl2⟩ := (HY.out.below hb).row hlt
      have HR1 := Lib.hid hr1
      have HR2 := Lib.hid hr2
      generalize rowL xss k = R at *
      have HEQ : Hid (eqL R R = true) := by simp [Hid, eqL]
      have h9a := hb.size
      clear hb hr1 hr2
      go_wp2_with fail
      go_region_held3 (fun w' => w'.cell? ⟨w.heap.size, 0, none⟩ = some (.slice (some ⟨g1, o1, none⟩) xss.length ca) ∧ w'.cell? ⟨w.heap.size + 1, 0, none⟩ = some (.slice (some ⟨g2, o2, none⟩) xss.length cb) ∧ w'.cell? ⟨g1, o1 + k, none⟩ = some (.slice a1 R.length c1) ∧ w'.cell? ⟨g2, o2 + k, none⟩ = some (.slice a2 R.length c2))
        (first | exact ⟨qA, qB, qC, qD⟩ | go_keep)
        (first | (go_at_call 13; refine (pSame_any a1 a2 R R c1 c2 _ (HR1.out.below (Joins.below_draws _ _ _)) (HR2.out.below (Joins.below_draws _ _ _))).mono ?_; rw [HEQ.out]; rintro e w5 ⟨rfl, hb5⟩; have ht5 : Below wr.heap.size wr w5 := (Joins.below_draws _ _ _).trans hb5; have qA := (ht5.cell (p := ⟨w.heap.size, 0, none⟩) (show w.heap.size < wr.heap.size by have := HA.out.1; omega)).trans cA; have qB := (ht5.cell (p := ⟨w.heap.size + 1, 0, none⟩) (show w.heap.size + 1 < wr.heap.size by have := HC.out.1; omega)).trans cB; have qC := (ht5.cell (p := ⟨g1, o1 + k, none⟩) hg1).trans hc1; have qD := (ht5.cell (p := ⟨g2, o2 + k, none⟩) hg2).trans hc2))
      go_wp2_with fail
      go_roundw
      case rel => exact ⟨k + 1, by omega, by go_num, HT.out.trans (ht5.mono HT.out.size)⟩
      case measure => simp [intOf]; omega
    · obtain rfl : k = xss.length := by omega
      go_wp2_with fail
      go_ret
      exact ⟨rfl, HB.out.trans (hb.mono HB.out.size)⟩

/-- are the two inputs together within the bound? -/
theorem big_any (a b : Option Addr) (n m c1 c2 : Nat) (w : World) (hn : n ≤ 9223372036854775807) (hm : m ≤ 9223372036854775807) :
    Calls Try.prog 9 #[.slice a n c1, .slice b m c2] w fun e w' => ((e = .returned (.bool true)) ∨ (e = .returned (.bool false) ∧ n ≤ 1048576 ∧ m ≤ 1048576)) ∧ w = w' := by
  by_cases h1 : 1048576 < (n : Int)
  · go_enter Try.func9, Try.ntmps9
    go_wp2_with fail
    go_ret
    exact ⟨.inl rfl, rfl⟩
  · by_cases h2 : 1048576 - (n : Int) < (m : Int)
    · go_enter Try.func9, Try.ntmps9
      go_wp2_with fail
      go_ret
      exact ⟨.inl rfl, rfl⟩
    · have h9 : n ≤ 1048576 ∧ m ≤ 1048576 := by omega
      go_enter Try.func9, Try.ntmps9
      go_wp2_with fail
      go_ret
      first | exact ⟨.inr ⟨rfl, h9.1, h9.2⟩, rfl⟩ | exact ⟨.inr rfl, rfl⟩

/-- a row in a new block with room behind it -/
theorem ownsRow_alloc (w : World) (cs : Array Value) (e : TypeId) (n c B : Nat) (hB : B ≤ w.heap.size) (hn : n ≤ c) (hc : c ≤ maxLen) (hs : cs.size = c) :
    (w.alloc (.cells cs e)).ownsRow B e 1 (.slice (some ⟨w.heap.size, 0, none⟩) n c) n (cs.toList.take n) :=
  ⟨by rw [List.length_take, Array.length_toList]; omega, .inr ⟨w.heap.size, c, cs, rfl, hB, heap_alloc_new w _, hn, hc, by omega, by rw [Nat.mul_one]⟩⟩
/-- the same row with one spare cell more -/
theorem ownsRow_wide {w : World} {B g n c : Nat} {t : TypeId} {xs : List Value} (h : w.ownsRow B t 1 (.slice (some ⟨g, 0, none⟩) n c) n xs) (hc : n + 1 ≤ c) :
    ∃ z, w.ownsRow B t 1 (.slice (some ⟨g, 0, none⟩) (n + 1) c) (n + 1) (xs ++ [z]) := by
  have hl := h.1
  rcases h.2 with ⟨e0, _⟩ | ⟨g', cap', cur, e0, hbase, hb, h1, h2, h3, h4⟩
  · cases e0
  · simp only [Value.slice.injEq, Option.some.injEq, Addr.mk.injEq, and_true] at e0
    obtain ⟨rfl, -, rfl⟩ := e0
    rw [Nat.mul_one] at h4 hl h3
    have hlt : n < cur.toList.length := by rw [Array.length_toList]; omega
    refine ⟨cur.toList[n], by rw [List.length_append, List.length_singleton]; omega, .inr ⟨g, c, cur, rfl, hbase, hb, hc, h2, by omega, ?_⟩⟩
    rw [Nat.mul_one, List.take_succ_eq_append_getElem hlt, h4]
/-- what Insert says of one value -/
def InsG (w w' : World) (B g n : Nat) (t : TypeId) (xs : List Value) (x : Nat) (u : Value) (e : Ending) : Prop :=
  ∃ g' c', e = .returned (.slice (some ⟨g', 0, none⟩) (n + 1) c') ∧ w'.ownsRow B t 1 (.slice (some ⟨g', 0, none⟩) (n + 1) c') (n + 1) (xs.take x ++ [u] ++ xs.drop x) ∧ w.grownBy w' (some g) ∧ (g' = g ∨ w.heap.size ≤ g')
theorem InsG.shift {w : World} {B g n c x : Nat} {t : TypeId} {xs : List Value} {u : Value} (h : w.ownsRow B t 1 (.slice (some ⟨g, 0, none⟩) n c) n xs) (hx : x < n) (hc : n + 1 ≤ c) :
    InsG w ((w.drew.setCells g (0 + (x + 1)) (xs.drop x)).setCells g (0 + x) [u]) B g n t xs x u (.returned (.slice (some ⟨g, 0, none⟩) (n + 1) c)) := by
  have hl : xs.length = n := by have := h.1; omega
  rw [Nat.zero_add, Nat.zero_add]
  have ⟨z, h1⟩ := ownsRow_wide h hc
  have h2 : w.drew.ownsRow B t 1 (.slice (some ⟨g, 0, none⟩) (n + 1) c) (n + 1) (xs ++ [z]) := ownsRow_bel h1 (Below.refl _ _).drew (Nat.le_refl _)
  have hdl : (xs.drop x).length = n - x := by rw [List.length_drop, hl]
  have ⟨h3, g3⟩ := ownsRow_cells (vs := xs.drop x) (o := x + 1) (by omega) h2
  have ⟨h4, g4⟩ := ownsRow_cells (vs := [u]) (o := x) (by rw [List.length_singleton]; omega) h3
  refine ⟨g, c, rfl, ?_, grown_trans (grown_trans (below_grown (Below.refl _ _).drew (Nat.le_refl _) _) g3) g4, .inl rfl⟩
  have e0 : ((xs ++ [z]).take (x+1)).length = x + 1 := by rw [List.length_take, List.length_append, List.length_singleton]; omega
  have e1 : (((xs ++ [z]).take (x+1) ++ xs.drop x ++ (xs ++ [z]).drop (x + 1 + (xs.drop x).length)).take x ++ [u] ++ ((xs ++ [z]).take (x+1) ++ xs.drop x ++ (xs ++ [z]).drop (x + 1 + (xs.drop x).length)).drop (x + [u].length)) = xs.take x ++ [u] ++ xs.drop x := by
    rw [hdl, List.drop_eq_nil_of_le (i := x + 1 + (n - x)) (by rw [List.length_append, List.length_singleton]; omega), List.append_nil, List.length_singleton]
    rw [List.take_append_of_le_length (by omega), List.take_take, show min x (x+1) = x by omega, List.take_append_of_le_length (by omega), List.drop_left' e0]
  rw [e1] at h4
  exact h4
theorem InsG.room {w : World} {B g n c : Nat} {t : TypeId} {xs : List Value} {u : Value} (h : w.ownsRow B t 1 (.slice (some ⟨g, 0, none⟩) n c) n xs) (hc : n + 1 ≤ c) :
    InsG w (w.setCells g (0 + n) [u]) B g n t xs n u (.returned (.slice (some ⟨g, 0, none⟩) (n + 1) c)) := by
  have hl : xs.length = n := by have := h.1; omega
  rw [Nat.zero_add]
  have ⟨z, h1⟩ := ownsRow_wide h hc
  have ⟨h4, g4⟩ := ownsRow_cells (vs := [u]) (o := n) (by rw [List.length_singleton]; omega) h1
  refine ⟨g, c, rfl, ?_, g4, .inl rfl⟩
  rw [List.length_singleton, List.drop_eq_nil_of_le (i := n + 1) (by rw [List.length_append, List.length_singleton]; omega), List.append_nil, List.take_append_of_le_length (by omega)] at h4
  rw [List.drop_eq_nil_of_le (i := n) (by omega), List.append_nil]
  exact h4
theorem InsG.endNew {w : World} {B g n c : Nat} {t : TypeId} {xs : List Value} {u : Value} {zs : Array Value} (hl : xs.length = n) (hB : B ≤ w.heap.size) (hc : n + 1 ≤ c) (hc2 : c ≤ maxLen) (hz : zs.size = c - (n + 1)) :
    InsG w (w.drew.alloc (.cells ((xs ++ [u]).toArray ++ zs) t)) B g n t xs n u (.returned (.slice (some ⟨w.heap.size, 0, none⟩) (n + 1) c)) := by
  have h1 := ownsRow_alloc w.drew ((xs ++ [u]).toArray ++ zs) t (n + 1) c B hB hc hc2 (by rw [Array.size_append, List.size_toArray, List.length_append, List.length_singleton]; omega)
  refine ⟨w.heap.size, c, rfl, ?_, below_grown ((Below.refl _ _).drew.alloc (Nat.le_refl _) _) (Nat.le_refl _) _, .inr (Nat.le_refl _)⟩
  have e1 : ((xs ++ [u]).toArray ++ zs).toList.take (n + 1) = xs.take n ++ [u] ++ xs.drop n := by
    rw [Array.toList_append, List.take_append_of_le_length (by rw [List.length_append, List.length_singleton]; omega), List.take_of_length_le (by rw [List.length_append, List.length_singleton]; omega), List.drop_eq_nil_of_le (i := n) (by omega), List.append_nil, List.take_of_length_le (i := n) (by omega)]
  rw [e1] at h1
  exact h1
theorem InsG.grow {w : World} {B g n c x : Nat} {t : TypeId} {xs : List Value} {u : Value} {ys zs : Array Value} (hl : xs.length = n) (hB : B ≤ w.heap.size) (hx : x < n) (hc : n + 1 ≤ c) (hc2 : c ≤ maxLen) (hy : ys.size = n + 1 - x) (hz : zs.size = c - (n + 1)) :
    InsG w (((w.alloc (.cells ((xs.take x).toArray ++ ys ++ zs) t)).drew.setCells w.heap.size x [u]).drew.setCells w.heap.size (x + 1) (xs.drop x)) B g n t xs x u (.returned (.slice (some ⟨w.heap.size, 0, none⟩) (n + 1) c)) := by
  have h1 := ownsRow_alloc w ((xs.take x).toArray ++ ys ++ zs) t (n + 1) c B hB hc hc2 (by rw [Array.size_append, Array.size_append, List.size_toArray, List.length_take]; omega)
  have h2 := ownsRow_bel h1 (Below.refl _ _).drew (Nat.le_refl _)
  have ⟨h3, g3⟩ := ownsRow_cells (vs := [u]) (o := x) (by rw [List.length_singleton]; omega) h2
  have h4 := ownsRow_bel h3 (Below.refl _ _).drew (Nat.le_refl _)
  have ⟨h5, g5⟩ := ownsRow_cells (vs := xs.drop x) (o := x + 1) (by rw [List.length_drop]; omega) h4
  have b1 : Below w.heap.size w ((w.alloc (.cells ((xs.take x).toArray ++ ys ++ zs) t)).drew) := ((Below.refl _ _).alloc (Nat.le_refl _) _).drew
  have b2 := b1.trans (grown_below g3 w.heap.size (Nat.le_refl _) b1.size)
  have b3 := b2.trans ((Below.refl w.heap.size _).drew)
  have b4 := b3.trans (grown_below g5 w.heap.size (Nat.le_refl _) b3.size)
  refine ⟨w.heap.size, c, rfl, ?_, below_grown b4 (Nat.le_refl _) _, .inr (Nat.le_refl _)⟩
  generalize hL : ((xs.take x).toArray ++ ys ++ zs).toList.take (n + 1) = L at h5
  have hLl : L.length = n + 1 := by rw [← hL, List.length_take, Array.length_toList, Array.size_append, Array.size_append, List.size_toArray, List.length_take]; omega
  have hLx : L.take x = xs.take x := by
    rw [← hL, List.take_take, show min x (n+1) = x by omega, Array.toList_append, Array.toList_append, List.append_assoc, List.take_append_of_le_length (by rw [List.length_take]; omega), List.take_of_length_le (by rw [List.length_take]; omega)]
  have e0 : (L.take x ++ [u]).length = x + 1 := by rw [List.length_append, List.length_take, List.length_singleton]; omega
  have e1 : (L.take x ++ [u] ++ L.drop (x + [u].length)).take (x + 1) ++ xs.drop x ++ (L.take x ++ [u] ++ L.drop (x + [u].length)).drop (x + 1 + (xs.drop x).length) = xs.take x ++ [u] ++ xs.drop x := by
    rw [List.take_left' e0, List.drop_eq_nil_of_le (i := x + 1 + (xs.drop x).length) (by rw [List.length_append, e0, List.length_drop, List.length_drop, List.length_singleton]; omega), List.append_nil, hLx]
  rw [e1] at h5
  exact h5

/-- a row of the rows has grown, and may lie in a new block -/
theorem RowsP.growRow {w w2 : World} {B : Nat} {v u : Value} {vl : List Value} {xss : List (List Int)} {r : List Int} (h : RowsP w B v vl xss) {k : Nat} (hk : k < xss.length) (hg : w.grownBy w2 (valAt vl k).ownBlock) (hu : OwnI w2 B u r) (hub : ∀ c, u.ownBlock = some c → (valAt vl k).ownBlock = some c ∨ w.heap.size ≤ c) :
    ∃ g c, v = .slice (some ⟨g, 0, none⟩) xss.length c ∧ B ≤ g ∧ g < w2.heap.size ∧ (∃ z, w2.cell? ⟨g, k, none⟩ = some z) ∧ w2.frozen? ⟨g, k, none⟩ = false ∧ RowsP (w2.setCell ⟨g, k, none⟩ u) B v (vl.set k u) (xss.set k r) := by
  have hl := h.o.vlen
  have ⟨bv, br⟩ := h.blk
  have n1 : ∀ c, u.ownBlock = some c → v.ownBlock ≠ some c := fun c hc h2 => by
    rcases hub c hc with h3 | h3
    · exact h.o.apart k hk c h3 h2
    · have := bv c h2; omega
  have n2 : ∀ j, j < xss.length → j ≠ k → ∀ c, u.ownBlock = some c → (valAt vl j).ownBlock ≠ some c := fun j hj hjk c hc h2 => by
    rcases hub c hc with h3 | h3
    · rcases Nat.lt_or_gt_of_ne hjk with h6 | h6
      · exact h.pair j k h6 hk c h2 h3
      · exact h.pair k j h6 hj c h3 h2
    · have := br j hj c h2; omega
  have hout : w2.ownsRow B 24 1 v xss.length vl := World.ownsRow.kept h.o.own hg (own_ne (fun c h1 h2 => h.o.apart k hk c h2 h1))
  rcases h.o.own.2 with ⟨e, h0⟩ | ⟨g, cap3, cur, e, hb, hgg, _⟩
  · omega
  · subst e
    have h1 := World.ownsRow.cellAt hout k (by omega)
    have hgr := grown_set w2 ⟨g, k, none⟩ u
    have hval : ∀ j, valAt (vl.set k u) j = if j = k then u else valAt vl j := by
      intro j
      simp only [valAt, List.getD_eq_getElem?_getD, List.getElem?_set]
      by_cases e : k = j
      · subst e; simp [show k < vl.length by omega]
      · simp [e, Ne.symm e]
    have hrow : ∀ j, j < xss.length → rowL (xss.set k r) j = if j = k then r else rowL xss j := by
      intro j hj
      simp only [rowL, List.getD_eq_getElem?_getD, List.getElem?_set]
      by_cases e : k = j
      · subst e; simp [hk]
      · simp [e, Ne.symm e]
    refine ⟨g, cap3, rfl, hb, (World.ownsRow.lt hout g rfl).2, ⟨_, by rw [h1, valAt_get (by omega)]⟩, World.ownsRow.frozenAt hout k, ⟨⟨?_, fun j hj => ?_, fun j hj c hc => ?_⟩, fun i j hij hj c hc => ?_⟩⟩
    · rw [List.length_set]
      exact (World.ownsRow.stored hout k u).1
    · rw [List.length_set] at hj
      rw [hval, hrow j hj]
      by_cases e : j = k
      · rw [if_pos e, if_pos e]
        exact hu.kept hgr (own_nb (fun c h1 h2 => n1 c h1 (by rw [h2]; rfl)))
      · rw [if_neg e, if_neg e]
        have h3 : OwnI w2 B (valAt vl j) (rowL xss j) := (h.o.row j hj).kept hg (own_ne (fun c h4 h5 => by
          rcases Nat.lt_or_gt_of_ne e with h6 | h6
          · exact h.pair j k h6 hk c h4 h5
          · exact h.pair k j h6 hj c h5 h4))
        exact h3.kept hgr (own_nb (fun c h1 h2 => h.o.apart j hj c h1 (by rw [h2]; rfl)))
    · rw [List.length_set] at hj
      rw [hval] at hc
      by_cases e : j = k
      · rw [if_pos e] at hc; exact n1 c hc
      · rw [if_neg e] at hc; exact h.o.apart j hj c hc
    · rw [List.length_set] at hj
      rw [hval] at hc ⊢
      by_cases e : j = k
      · rw [if_pos e]
        rw [if_neg (by omega)] at hc
        exact fun h2 => n2 i (by omega) (by omega) c h2 hc
      · rw [if_neg e]
        by_cases e2 : i = k
        · rw [if_pos e2] at hc
          exact n2 j hj e c hc
        · rw [if_neg e2] at hc
          exact h.pair i j hij hj c hc

/-- one row more among the rows -/
theorem RowsP.ins {w w' : World} {B C g n c g' c' x : Nat} {vl : List Value} {u : Value} {f : Nat → Nat → Int} {m : Nat} (h : RowsP w B (.slice (some ⟨g, 0, none⟩) n c) vl (sqM f n m)) (hx : x ≤ n) (hu : OwnI w C u (fmap (fun _ => 0) m)) (hBC : B ≤ C) (hgC : g < C) (hrC : ∀ k, k < n → ∀ c, (valAt vl k).ownBlock = some c → c < C)
    (ho : w'.ownsRow B 24 1 (.slice (some ⟨g', 0, none⟩) (n + 1) c') (n + 1) (vl.take x ++ [u] ++ vl.drop x)) (hg : w.grownBy w' (some g)) (hg' : g' = g ∨ w.heap.size ≤ g') :
    RowsP w' B (.slice (some ⟨g', 0, none⟩) (n + 1) c') (vl.take x ++ [u] ++ vl.drop x) (sqM (inR f x) (n + 1) m) := by
  have hl := h.o.vlen
  rw [sqM_len] at hl
  have htl : (vl.take x).length = x := by rw [List.length_take]; omega
  have hv : ∀ k, k < n + 1 → valAt (vl.take x ++ [u] ++ vl.drop x) k = if k < x then valAt vl k else if k = x then u else valAt vl (k-1) := fun k hk => by
    rw [valAt, List.getD_eq_getElem?_getD]
    by_cases e : k < x
    · rw [if_pos e, List.append_assoc, List.getElem?_append_left (by omega), List.getElem?_take, if_pos e, valAt, List.getD_eq_getElem?_getD]
    · rw [if_neg e]
      by_cases e2 : k = x
      · rw [if_pos e2, List.getElem?_append_left (by rw [List.length_append, htl, List.length_singleton]; omega), List.getElem?_append_right (by omega), htl, e2, Nat.sub_self]; rfl
      · rw [if_neg e2, List.getElem?_append_right (by rw [List.length_append, htl, List.length_singleton]; omega), List.length_append, htl, List.length_singleton, List.getElem?_drop, show x + (k - (x + 1)) = k - 1 by omega, valAt, List.getD_eq_getElem?_getD]
  have hul := hu.lt
  have hrow : ∀ k, k < n → OwnI w B (valAt vl k) (fmap (f k) m) := fun k hk => by
    have h1 := h.o.row k (by rw [sqM_len]; exact hk)
    rw [sqM_row hk] at h1
    exact h1
  have hap : ∀ k, k < n → ∀ c, (valAt vl k).ownBlock = some c → c ≠ g := fun k hk c hc h9 => h.o.apart k (by rw [sqM_len]; exact hk) c hc (by rw [h9]; rfl)
  have hlt : ∀ k, k < n → ∀ c, (valAt vl k).ownBlock = some c → c < w.heap.size := fun k hk c hc => ((hrow k hk).lt c hc).2
  have hpr : ∀ j k, j < k → k < n → ∀ c, (valAt vl j).ownBlock = some c → (valAt vl k).ownBlock ≠ some c := fun j k hjk hk c hc => h.pair j k hjk (by rw [sqM_len]; exact hk) c hc
  refine ⟨⟨by rw [sqM_len]; exact ho, fun k hk => ?_, fun k hk c hc hc2 => ?_⟩, fun j k hjk hk c hc => ?_⟩
  · rw [sqM_len] at hk
    rw [hv k hk, sqM_row hk]
    by_cases e : k < x
    · rw [if_pos e, fmap_ext (f := inR f x k) (g := f k) (fun b hb => by rw [inR, if_pos e])]
      exact (hrow k (by omega)).kept hg (own_nb (fun c h2 => hap k (by omega) c h2))
    · rw [if_neg e]
      by_cases e2 : k = x
      · rw [if_pos e2, fmap_ext (f := inR f x k) (g := fun _ => 0) (fun b hb => by rw [inR, if_neg e, if_pos e2])]
        exact (hu.mono hBC).kept hg (own_nb (fun c h2 h3 => by have := (hul c h2).1; omega))
      · rw [if_neg e2, fmap_ext (f := inR f x k) (g := f (k-1)) (fun b hb => by rw [inR, if_neg e, if_neg e2])]
        exact (hrow (k-1) (by omega)).kept hg (own_nb (fun c h2 => hap (k-1) (by omega) c h2))
  · rw [sqM_len] at hk
    rw [hv k hk] at hc
    have hcg : c = g' := by simpa [Value.ownBlock] using hc2.symm
    have key : c < w.heap.size ∧ c ≠ g := by
      by_cases e : k < x
      · rw [if_pos e] at hc; exact ⟨hlt k (by omega) c hc, hap k (by omega) c hc⟩
      · rw [if_neg e] at hc
        by_cases e2 : k = x
        · rw [if_pos e2] at hc; have := hul c hc; exact ⟨this.2, by omega⟩
        · rw [if_neg e2] at hc; exact ⟨hlt (k-1) (by omega) c hc, hap (k-1) (by omega) c hc⟩
    rcases hg' with h9 | h9
    · exact key.2 (by omega)
    · have := key.1; omega
  · rw [sqM_len] at hk
    rw [hv j (by omega)] at hc
    rw [hv k hk]
    by_cases e1 : j < x
    · rw [if_pos e1] at hc
      by_cases e2 : k < x
      · rw [if_pos e2]; exact hpr j k hjk (by omega) c hc
      · rw [if_neg e2]
        by_cases e3 : k = x
        · rw [if_pos e3]; intro h9; have := (hul c h9).1; have := hrC j (by omega) c hc; omega
        · rw [if_neg e3]; exact hpr j (k-1) (by omega) (by omega) c hc
    · rw [if_neg e1] at hc
      rw [if_neg (show ¬ k < x by omega), if_neg (show ¬ k = x by omega)]
      by_cases e3 : j = x
      · rw [if_pos e3] at hc; intro h9; have := (hul c hc).1; have := hrC (k-1) (by omega) c h9; omega
      · rw [if_neg e3] at hc; exact hpr (j-1) (k-1) (by omega) (by omega) c hc
/-- the rows while a column is put in, the first k being done -/
def ptM (f : Nat → Nat → Int) (n x k : Nat) : List (List Int) := (List.range (n+1)).map fun a => if a < k then fmap (wdF (f a) x) (n + 1) else fmap (f a) n
theorem ptM_len (f : Nat → Nat → Int) (n x k : Nat) : (ptM f n x k).length = n + 1 := by simp [ptM]
theorem ptM_row {f : Nat → Nat → Int} {n x k a : Nat} (h : a < n + 1) : rowL (ptM f n x k) a = if a < k then fmap (wdF (f a) x) (n + 1) else fmap (f a) n := by simp [ptM, rowL, h]
theorem ptM_zero {f : Nat → Nat → Int} {n x : Nat} : ptM f n x 0 = sqM f (n + 1) n := by
  refine rows_ext (by rw [ptM_len, sqM_len]) (fun i hi => ?_)
  rw [ptM_len] at hi
  rw [ptM_row hi, sqM_row hi, if_neg (by omega)]
theorem ptM_end {f : Nat → Nat → Int} {n x : Nat} : ptM f n x (n+1) = sqM (fun a b => wdF (f a) x b) (n + 1) (n + 1) := by
  refine rows_ext (by rw [ptM_len, sqM_len]) (fun i hi => ?_)
  rw [ptM_len] at hi
  rw [ptM_row hi, sqM_row hi, if_pos hi]
theorem ptM_step {f : Nat → Nat → Int} {n x k : Nat} (hk : k < n + 1) (hx : x ≤ n) : (ptM f n x k).set k ((rowL (ptM f n x k) k).take x ++ [0] ++ (rowL (ptM f n x k) k).drop x) = ptM f n x (k+1) := by
  refine rows_ext (by rw [List.length_set, ptM_len, ptM_len]) (fun i hi => ?_)
  rw [List.length_set, ptM_len] at hi
  have : ∀ r, rowL ((ptM f n x k).set k r) i = if i = k then r else rowL (ptM f n x k) i := by
    intro r
    simp only [rowL, List.getD_eq_getElem?_getD, List.getElem?_set]
    by_cases e : k = i
    · subst e; simp [ptM_len, hk]
    · simp [e, Ne.symm e]
  rw [this, ptM_row hi, ptM_row hk, if_neg (Nat.lt_irrefl k), fmap_ins hx]
  by_cases e : i = k
  · subst e
    rw [if_pos rfl, ptM_row hi, if_pos (by omega)]
  · rw [if_neg e, ptM_row hi]
    by_cases h : i < k
    · rw [if_pos h, if_pos (by omega)]
    · rw [if_neg h, if_neg (by omega)]

def insRen : Go.Shelf.Ren := ⟨fun | 21 => 194 | 27 => 205 | 28 => 206 | 35 => 208 | 39 => 128 | n => n, fun | 22 => 24 | 3 => 3 | 4 => 4 | 0 => 0 | n => n, fun | n => n⟩
theorem laysIns : Go.Proofs.Lays2.n21 Try.prog insRen := {
  mixed := by kernel_rfl
  f21 := Try.func194.trans (congrArg some (by kernel_rfl))
  f27 := Try.func205.trans (congrArg some (by kernel_rfl))
  f28 := Try.func206.trans (congrArg some (by kernel_rfl))
  f35 := Try.func208.trans (congrArg some (by kernel_rfl))
  f39 := Try.func128.trans (congrArg some (by kernel_rfl))
  t0 := Try.underlying0
  a0 := Try.isAgg0
  z0 := Try.sizeOf0
  v0 := Try.zeroValue0
  t3 := Try.underlying3
  a3 := Try.isAgg3
  z3 := Try.sizeOf3
  v3 := Try.zeroValue3
  t4 := Try.underlying4
  a4 := Try.isAgg4
  z4 := Try.sizeOf4
  v4 := Try.zeroValue4
  t22 := Try.underlying24
  a22 := Try.isAgg24
  z22 := Try.sizeOf24
  v22 := Try.zeroValue24
  i3 := by kernel_rfl }

set_option maxRecDepth 100000 in
/-- one number put in -/
theorem insOwnS (g cap x vb : Nat) (B : Nat) (xs : List Int) (w : World) (ho : OwnI w B (.slice (some ⟨g, 0, none⟩) xs.length cap) xs) (hx : x ≤ xs.length) (hn : xs.length ≤ 1000) (hB : B ≤ w.heap.size) (u : Int) (hvb : vb ≠ g) (hv : w.heap[vb]? = some (.cells #[.int .i64 u] 3 (0, 0))) :
    Calls Try.prog 194 #[.slice (some ⟨g, 0, none⟩) xs.length cap, .int .i64 (x : Int), .slice (some ⟨vb, 0, none⟩) 1 1] w fun e w' => ∃ g' c', e = .returned (.slice (some ⟨g', 0, none⟩) (xs.length + 1) c') ∧ OwnI w' B (.slice (some ⟨g', 0, none⟩) (xs.length + 1) c') (xs.take x ++ [u] ++ xs.drop x) ∧ w.grownBy w' (some g) ∧ (g' = g ∨ w.heap.size ≤ g') := by
  have hcap := ho.capLe
  have hcm : cap ≤ maxLen := by
    rcases ho.2 with ⟨e0, _⟩ | ⟨g9, cap9, cur9, e0, _, _, _, h2, _⟩
    · cases e0
    · simp only [Value.slice.injEq] at e0
      rw [e0.2.2]; exact h2
  have key : ∀ e w', InsG w w' B g xs.length 3 (xs.map (Value.int .i64)) x (.int .i64 u) e → ∃ g' c', e = .returned (.slice (some ⟨g', 0, none⟩) (xs.length + 1) c') ∧ OwnI w' B (.slice (some ⟨g', 0, none⟩) (xs.length + 1) c') (xs.take x ++ [u] ++ xs.drop x) ∧ w.grownBy w' (some g) ∧ (g' = g ∨ w.heap.size ≤ g') := by
    rintro e w' ⟨g', c', e1, h1, h2, h3⟩
    refine ⟨g', c', e1, ?_, h2, h3⟩
    have hl : (xs.take x ++ [u] ++ xs.drop x).length = xs.length + 1 := by rw [List.length_append, List.length_append, List.length_take, List.length_drop, List.length_singleton]; omega
    unfold OwnI
    rw [hl, List.map_append, List.map_append, List.map_take, List.map_drop]
    exact h1
  have hfr : ∀ k, w.frozen? ⟨vb, k, none⟩ = false := fun k => by simp [World.frozen?, hv]
  have hvc : ∀ j v, ([Value.int .i64 u] : List Value)[j]? = some v → w.cell? ⟨vb, 0 + j, none⟩ = some v := fun j v hj => by
    obtain ⟨hlt, e⟩ := List.getElem?_eq_some_iff.1 hj
    obtain rfl : j = 0 := by simpa using hlt
    rw [cell_of_row w vb (0+0) _ _ (0, 0) hv]
    simpa using e
  have h1v : ∀ v ∈ ([Value.int .i64 u] : List Value), v.oneCell' = true := fun v hv => by simp at hv; subst hv; rfl
  have h1c : ∀ v ∈ xs.map (Value.int .i64), v.oneCell' = true := fun v hv => by
    obtain ⟨t, _, rfl⟩ := List.mem_map.1 hv
    rfl
  have hml : (xs.map (Value.int .i64)).length = xs.length := List.length_map _
  have hcs : ∀ j v, (xs.map (Value.int .i64))[j]? = some v → w.cell? ⟨g, 0 + j, none⟩ = some v := fun j v hj => by
    have := (List.getElem?_eq_some_iff.1 hj).1
    rw [Nat.zero_add, World.ownsRow.cellAt ho j (by omega)]; exact hj
  by_cases hr : xs.length + 1 ≤ cap
  · have ⟨z, hw⟩ := ownsRow_wide ho hr
    have hsp : ∀ j, j < xs.length + 1 → (w.cell? ⟨g, 0 + j, none⟩).isSome = true := fun j hj => by
      rw [Nat.zero_add, World.ownsRow.cellAt hw j (by omega), List.getElem?_eq_getElem (by rw [List.length_append, hml, List.length_singleton]; omega)]; rfl
    by_cases hlt : x < xs.length
    · refine (Any2.slices_Insert_int_shift laysIns g 0 xs.length cap x vb 0 1 1 (xs.map (Value.int .i64)) [.int .i64 u] w hlt (by omega) hr (by unfold maxLen at hcm; omega) hvb hml rfl hcs hsp (fun j _ => World.ownsRow.frozenAt hw _) hvc h1c h1v 3 3 1 cap ?_ ?_ (by omega) (hfr 0) (hfr 1)).mono ?_
      · simp [World.shape?, hv]
      · rcases ho.2 with ⟨e0, _⟩ | ⟨g9, cap9, cur9, e0, _, h9, _, _, h3, _⟩
        · cases e0
        · simp only [Value.slice.injEq, Option.some.injEq, Addr.mk.injEq, and_true] at e0
          obtain ⟨rfl, -, rfl⟩ := e0
          simp [World.shape?, h9]; omega
      · rintro e w' ⟨rfl, rfl⟩
        exact key _ _ (InsG.shift ho hlt hr)
    · obtain rfl : x = xs.length := by omega
      refine (Any2.slices_Insert_int_end_room laysIns g 0 xs.length cap vb 0 1 1 [.int .i64 u] w (by omega) hr (by unfold maxLen at hcm; omega) rfl (fun j hj => by rw [Nat.add_assoc]; exact hsp _ (by omega)) (fun j _ => World.ownsRow.frozenAt hw _) hvc h1v).mono ?_
      rintro e w' ⟨rfl, rfl⟩
      exact key _ _ (InsG.room ho hr)
  · have hge : xs.length + 1 ≤ grownCap w (xs.length + 1) cap 3 := grownCap_ge w _ _ _
    have hgm : grownCap w (xs.length + 1) cap 3 ≤ maxLen := grownCap_le_maxLen w _ _ _ (by unfold maxLen; omega)
    by_cases hlt : x < xs.length
    · refine (Any2.slices_Insert_int_grow laysIns g 0 xs.length cap x vb 0 1 1 (xs.map (Value.int .i64)) [.int .i64 u] w hlt (by omega) hcap (by omega) (by omega) hml rfl hcs hvc h1c h1v).mono ?_
      rintro e w' ⟨rfl, rfl⟩
      exact key _ _ (InsG.grow hml hB hlt hge hgm (by simp [Builtin.zeroCells, Value.cells]) (by simp [Builtin.zeroCells, Value.cells]))
    · obtain rfl : x = xs.length := by omega
      refine (Any2.slices_Insert_int_end_grow laysIns (some ⟨g, 0, none⟩) xs.length cap vb 0 1 1 (xs.map (Value.int .i64)) [.int .i64 u] w (by omega) hcap (by omega) (by omega) hml rfl (fun h => by cases h) (fun a ha j v hj => by
        simp only [Option.some.injEq] at ha
        subst ha
        rw [Addr.add_lit]; exact hcs j v hj) hvc h1v).mono ?_
      rintro e w' ⟨rfl, rfl⟩
      exact key _ _ (InsG.endNew hml hB hge hgm (by simp [Builtin.zeroCells, Value.cells]))
set_option maxRecDepth 100000 in
theorem insOwn_any (a : Option Addr) (cap x vb : Nat) (B : Nat) (xs : List Int) (w : World) (ho : OwnI w B (.slice a xs.length cap) xs) (hx : x ≤ xs.length) (hn : xs.length ≤ 1000) (hB : B ≤ w.heap.size) (u : Int) (hvb : ∀ c, (Value.slice a xs.length cap).ownBlock = some c → vb ≠ c) (hv : w.heap[vb]? = some (.cells #[.int .i64 u] 3 (0, 0))) :
    Calls Try.prog 194 #[.slice a xs.length cap, .int .i64 (x : Int), .slice (some ⟨vb, 0, none⟩) 1 1] w fun e w' => ∃ g' c', e = .returned (.slice (some ⟨g', 0, none⟩) (xs.length + 1) c') ∧ OwnI w' B (.slice (some ⟨g', 0, none⟩) (xs.length + 1) c') (xs.take x ++ [u] ++ xs.drop x) ∧ w.grownBy w' (Value.slice a xs.length cap).ownBlock ∧ ((Value.slice a xs.length cap).ownBlock = some g' ∨ w.heap.size ≤ g') := by
  have hf := ho.2
  rcases hf with ⟨e0, h0⟩ | ⟨g, cap', cur, e0, _⟩
  · simp only [Value.slice.injEq] at e0
    obtain ⟨rfl, -, rfl⟩ := e0
    have hnil : xs = [] := List.length_eq_zero_iff.1 h0
    subst hnil
    obtain rfl : x = 0 := by simpa using hx
    have hvc : ∀ j v, ([Value.int .i64 u] : List Value)[j]? = some v → w.cell? ⟨vb, 0 + j, none⟩ = some v := fun j v hj => by
      obtain ⟨hlt, e⟩ := List.getElem?_eq_some_iff.1 hj
      obtain rfl : j = 0 := by simpa using hlt
      rw [cell_of_row w vb (0+0) _ _ (0, 0) hv]
      simpa using e
    have h1v : ∀ v ∈ ([Value.int .i64 u] : List Value), v.oneCell' = true := fun v hv => by simp at hv; subst hv; rfl
    refine (Any2.slices_Insert_int_end_grow laysIns none 0 0 vb 0 1 1 [] [.int .i64 u] w (by omega) (by omega) (by omega) (by omega) rfl rfl (fun _ => rfl) (fun a ha => by cases ha) hvc h1v).mono ?_
    rintro e w' ⟨rfl, rfl⟩
    have hge : 0 + 1 ≤ grownCap w (0 + 1) 0 3 := grownCap_ge w _ _ _
    have hgm : grownCap w (0 + 1) 0 3 ≤ maxLen := grownCap_le_maxLen w _ _ _ (by unfold maxLen; omega)
    have ⟨g', c', e1, h1, h2, h3⟩ := InsG.endNew (w := w) (B := B) (g := w.heap.size) (t := 3) (u := .int .i64 u) (xs := []) (n := 0) rfl hB hge hgm (zs := Builtin.zeroCells (Value.int .i64 0).cells (grownCap w (0 + 1) 0 3 - (0 + 1))) (by simp [Builtin.zeroCells, Value.cells])
    refine ⟨g', c', e1, h1, ?_, .inr (by rcases h3 with h | h <;> omega)⟩
    exact below_grown ((Below.refl _ _).drew.alloc (Nat.le_refl _) _) (Nat.le_refl _) _
  · simp only [Value.slice.injEq] at e0
    obtain ⟨rfl, -, rfl⟩ := e0
    refine (insOwnS g cap x vb B xs w ho hx hn hB u (hvb g rfl) hv).mono ?_
    rintro e w' ⟨g', c', e1, h1, h2, h3⟩
    refine ⟨g', c', e1, h1, h2, ?_⟩
    rcases h3 with h | h
    · exact .inl (by rw [h]; rfl)
    · exact .inr h

set_option maxHeartbeats 4000000 in
set_option maxRecDepth 100000 in
/-- one row put in: there is no room, so all of them move -/
theorem insRows_any (g B n x vb : Nat) (vl : List Value) (u : Value) (w : World) (h : w.ownsRow B 24 1 (.slice (some ⟨g, 0, none⟩) n n) n vl) (hsl : ∀ i, i < n → ∃ a m c, valAt vl i = .slice a m c) (hu : u.oneCell' = true) (hx : x ≤ n) (hn : n ≤ 1000) (hB : B ≤ w.heap.size) (hv : w.heap[vb]? = some (.cells #[u] 24 (0, 0))) :
    Calls Try.prog 193 #[.slice (some ⟨g, 0, none⟩) n n, .int .i64 (x : Int), .slice (some ⟨vb, 0, none⟩) 1 1] w fun e w' => InsG w w' B g n 24 vl x u e := by
  have mixed : Try.prog.follows .mixedOrders = true := by kernel_rfl
  obtain ⟨j0, hj0, hy0, hy1, hy2⟩ := info_parts infoSlice
  have hvl : vl.length = n := by have := h.1; omega
  have hvw : vb < w.heap.size := (Array.getElem?_eq_some_iff.1 hv).1
  have hbw : g < w.heap.size := (World.ownsRow.lt h g rfl).2
  have h1c : ∀ v ∈ vl, v.oneCell' = true := by
    intro v hv
    obtain ⟨t, ht, rfl⟩ := List.mem_iff_getElem.1 hv
    obtain ⟨a5, m5, c5, e5⟩ := hsl t (by omega)
    have e : vl[t]? = some (valAt vl t) := valAt_get (by omega)
    rw [List.getElem?_eq_getElem ht, e5] at e
    simp only [Option.some.injEq] at e
    rw [e]; rfl
  have hvs : ∀ j v, ([u] : List Value)[j]? = some v → w.cell? ⟨vb, j, none⟩ = some v := fun j v hj => by
    obtain ⟨hlt, e⟩ := List.getElem?_eq_some_iff.1 hj
    obtain rfl : j = 0 := by simpa using hlt
    rw [cell_of_row w vb 0 _ _ (0, 0) hv]
    simpa using e
  have hcs : ∀ j v, vl[j]? = some v → w.cell? ⟨g, j, none⟩ = some v := fun j v hj => by
    have := (List.getElem?_eq_some_iff.1 hj).1
    rw [World.ownsRow.cellAt h j (by omega)]; exact hj
  have h1v : ∀ v ∈ ([u] : List Value), v.oneCell' = true := fun v hv => by simp at hv; subst hv; exact hu
  have hGe : n + 1 ≤ grownCap w (n + 1) n 24 := grownCap_ge w _ _ _
  have hGm : grownCap w (n + 1) n 24 ≤ maxLen := grownCap_le_maxLen w _ _ _ (by unfold maxLen; omega)
  have hz1 : ¬ ((1 : Int) = 0) := by omega
  by_cases hxn : x = n
  · subst hxn
    have hold : (Builtin.firstCells j0.size x (.slice (some ⟨g, 0, none⟩) x x)).run Try.prog w.drew = .ok vl.toArray w.drew := by
      rw [hy1]
      exact run_firstCells_some w.drew 1 x ⟨g, 0, none⟩ x x vl (by omega) (fun j v hj => by rw [Addr.add_lit, Nat.zero_add]; exact hcs j v hj)
    have hsrc : Src Try.prog j0.size 60 (.slice (some ⟨vb, 0, none⟩) 1 1) 1 [u] w := by
      rw [hy1]
      exact Src.ofSlice w Try.underlying60 ⟨vb, 0, none⟩ 1 1 [u] (by rfl) (fun j v hj => by rw [Addr.add_lit, Nat.zero_add]; exact hvs j v hj) h1v
    have hrun := fun ty => run_append_grow_src w 60 60 ty 24 j0 _ Try.underlying60 hj0 hy0 (some ⟨g, 0, none⟩) x x vl hold _ 1 [u] hsrc (by omega) (by omega) (by rw [hy2]; exact growslice_fits (by omega) (by omega))
    have hfin := InsG.endNew (w := w) (B := B) (g := g) (t := 24) (u := u) hvl hB hGe hGm (zs := Builtin.zeroCells (Value.slice none 0 0).cells (grownCap w (x + 1) x 24 - (x + 1))) (by simp [Builtin.zeroCells, Value.cells])
    have HF := Lib.hid hfin
    clear hfin hsl h1c hcs hvs
    go_enter Try.func193, Try.ntmps193
    go_wp2_with (at_builtin; refine Lib.wpList_append_run _ rfl _ _ _ _ rfl _ _ rfl rfl _ _ (hrun _) ?_)
    all_goals
      go_ret
      exact HF.out
  · have hi : x < n := by omega
    have hz2 : ¬ ((x : Int) = (n : Int)) := by omega
    have hz3 : (n : Int) < (n : Int) + 1 := by omega
    have hkk : (n : Int) + 1 - (x : Int) = ((n + 1 - x : Nat) : Int) := by omega
    have hik : x + (n + 1 - x) = n + 1 := by omega
    have hold : (Builtin.firstCells j0.size x (.slice (some ⟨g, 0, none⟩) x n)).run Try.prog w.drew = .ok (vl.take x).toArray w.drew := by
      rw [hy1]
      exact run_firstCells_some w.drew 1 x ⟨g, 0, none⟩ x n (vl.take x) (by rw [List.length_take]; omega) (fun j v hj => by
        rw [Addr.add_lit, Nat.zero_add]
        rw [List.getElem?_take] at hj
        split at hj
        · exact hcs j v hj
        · cases hj)
    have hrz : ∀ ty, (Builtin.append_ #[60, 3] ty #[.slice (some ⟨g, 0, none⟩) x n, .int .i64 ((n : Int) + 1 - (x : Int))]).run Try.prog w =
        .ok (.slice (some ⟨w.heap.size, 0, none⟩) (n + 1) (grownCap w (n + 1) n 24)) (w.drew.alloc (.cells ((vl.take x).toArray ++ Builtin.zeroCells (Value.slice none 0 0).cells (n + 1 - x) ++ Builtin.zeroCells (Value.slice none 0 0).cells (grownCap w (n + 1) n 24 - (n + 1))) 24)) := fun ty => by
      have h := Lib.run_append_grow_zeros w 60 3 ty 24 j0 _ .i64 .i64 Try.underlying60 Try.underlying3 hj0 hy0 (some ⟨g, 0, none⟩) x n (vl.take x) hold (n + 1 - x) (by omega) (by omega) (by omega) (by omega) (by rw [hy2]; omega) (by rw [hy2, hik]; exact growslice_fits (by omega) (by omega))
      rw [hik] at h
      rw [hkk]
      exact h
    have hfin := InsG.grow (w := w) (B := B) (g := g) (t := 24) (u := u) hvl hB hi hGe hGm (ys := Builtin.zeroCells (Value.slice none 0 0).cells (n + 1 - x)) (zs := Builtin.zeroCells (Value.slice none 0 0).cells (grownCap w (n + 1) n 24 - (n + 1))) (by simp [Builtin.zeroCells, Value.cells]) (by simp [Builtin.zeroCells, Value.cells])
    obtain ⟨G, hG⟩ : ∃ G, G = grownCap w (n + 1) n 24 := ⟨_, rfl⟩
    rw [← hG] at hrz hGe hGm hfin
    obtain ⟨ROW, hROW⟩ : ∃ ROW : Array Value, ROW = (vl.take x).toArray ++ Builtin.zeroCells (Value.slice none 0 0).cells (n + 1 - x) ++ Builtin.zeroCells (Value.slice none 0 0).cells (G - (n + 1)) := ⟨_, rfl⟩
    rw [← hROW] at hrz hfin
    have hRl : n + 1 ≤ ROW.size := by
      rw [hROW]
      simp [Builtin.zeroCells, Value.cells]
      omega
    have HF := Lib.hid hfin
    obtain ⟨W1, hW1⟩ : ∃ W1, W1 = w.drew.alloc (.cells ROW 24) := ⟨_, rfl⟩
    rw [← hW1] at hrz
    have hsz : (Try.prog.info? 24).map (·.size) = some 1 := by rw [hj0]; simp [hy1]
    have hN : ∀ j, j < n + 1 → (W1.cell? ⟨w.heap.size, j, none⟩).isSome = true := fun j hj => by
      rw [hW1, World.cell?_alloc_at (w := w.drew) ROW _ w.heap.size j rfl, Array.getElem?_eq_getElem (by omega)]; rfl
    have hNf : ∀ j, W1.frozen? ⟨w.heap.size, j, none⟩ = false := fun j => by rw [hW1]; exact World.frozen?_alloc_at (w := w.drew) ROW _ w.heap.size j rfl
    have hOb : ∀ j v, w.cell? ⟨g, j, none⟩ = some v → W1.cell? ⟨g, j, none⟩ = some v := fun j v h => by rw [hW1, World.cell?_alloc_past (w := w.drew) _ g j hbw]; exact h
    have hOv : ∀ j v, w.cell? ⟨vb, j, none⟩ = some v → W1.cell? ⟨vb, j, none⟩ = some v := fun j v h => by rw [hW1, World.cell?_alloc_past (w := w.drew) _ vb j hvw]; exact h
    have hcpA : ∀ (W : World), (∀ x, W.cell? x = W1.cell? x) → (∀ x, W.frozen? x = W1.frozen? x) → ∀ ty dc, (Builtin.copy_ #[60, 60] ty #[.slice (some ⟨w.heap.size, x, none⟩) (n + 1 - x) dc, .slice (some ⟨vb, 0, none⟩) 1 1]).run Try.prog W = .ok (goInt ([u] : List Value).length) (W.setCells w.heap.size x [u]) := fun W hWc hWf ty dc =>
      run_copy_cells W _ _ ty 24 w.heap.size x (n + 1 - x) dc ⟨vb, 0, none⟩ 1 1 [u] Try.underlying60 hsz (by rw [List.length_singleton]; simp only [Nat.min_def]; split <;> omega)
        (fun j v hj => by rw [Addr.add_lit, Nat.zero_add, hWc]; exact hOv _ v (hvs j v hj))
        (fun j hj => by rw [List.length_singleton] at hj; rw [hWc]; exact hN _ (by omega)) (fun j hj => by rw [hWf]; exact hNf _) h1v
    have hGn : n + 1 ≤ G := hGe
    have hG63 : G ≤ 9223372036854775807 := by unfold maxLen at hGm; omega
    have hGi : ¬ (G = x) := by omega
    have hGim : ¬ (G = x + 1) := by omega
    have hci : ¬ (n = x) := by omega
    have hbN : g ≠ w.heap.size := by omega
    have hdl : (vl.drop x).length = n - x := by rw [List.length_drop, hvl]
    have hcpB : ∀ (W : World), (∀ y, W.cell? y = (W1.setCells w.heap.size x [u]).cell? y) → (∀ y, W.frozen? y = (W1.setCells w.heap.size x [u]).frozen? y) → ∀ ty dc sc, (Builtin.copy_ #[60, 60] ty #[.slice (some ⟨w.heap.size, x + 1, none⟩) (n + 1 - (x + 1)) dc, .slice (some ⟨g, 0 + x, none⟩) (n - x) sc]).run Try.prog W = .ok (goInt (vl.drop x).length) (W.setCells w.heap.size (x + 1) (vl.drop x)) := fun W hWc hWf ty dc sc =>
      run_copy_cells W _ _ ty 24 w.heap.size (x + 1) (n + 1 - (x + 1)) dc ⟨g, 0 + x, none⟩ (n - x) sc (vl.drop x) Try.underlying60 hsz (by rw [hdl]; simp only [Nat.min_def]; split <;> omega)
        (fun j v hj => by
          rw [Addr.add_lit, hWc, World.cell?_setCells_out _ _ _ _ _ (fun h _ => absurd h hbN), Nat.zero_add]
          exact hOb _ v (hcs (x + j) v (by rwa [List.getElem?_drop] at hj)))
        (fun j hj => by rw [hdl] at hj; rw [hWc]; exact isSome_setCells _ _ _ _ (fun t ht => by rw [List.length_singleton] at ht; exact hN _ (by omega)) _ (hN _ (by omega)))
        (fun j hj => by rw [hWf, World.frozen?_setCells]; exact hNf _) (fun v hv => h1c v (List.mem_of_mem_drop hv))
    subst hW1
    have hE1 : ∀ y, ((w.alloc (.cells ROW 24)).drew).cell? y = (w.drew.alloc (.cells ROW 24)).cell? y := fun y => rfl
    have hE2 : ∀ y, ((w.alloc (.cells ROW 24)).drew).frozen? y = (w.drew.alloc (.cells ROW 24)).frozen? y := fun y => rfl
    have hF1 : ∀ y, (((w.alloc (.cells ROW 24)).drew.setCells w.heap.size x [u]).drew).cell? y = ((w.drew.alloc (.cells ROW 24)).setCells w.heap.size x [u]).cell? y := fun y => rfl
    have hF2 : ∀ y, (((w.alloc (.cells ROW 24)).drew.setCells w.heap.size x [u]).drew).frozen? y = ((w.drew.alloc (.cells ROW 24)).setCells w.heap.size x [u]).frozen? y := fun y => rfl
    have hw1 : IntKind.i64.wrap ((x : Int) + 1) = (x : Int) + 1 := by rw [IntKind.wrap_i64]; omega
    have hb1 : (0 : Int) ≤ (x : Int) + 1 := by omega
    have hin : x ≤ n := by omega
    have htn : ((x : Int) + 1).toNat = x + 1 := by omega
    have hb3 : (x : Int) ≤ (n : Int) := by omega
    clear hkk hik hold hROW hG hRl hsl hxn hfin
    go_enter Try.func193, Try.ntmps193
    go_wp2_with (first
      | (at_builtin; refine Lib.wpList_append_run _ rfl _ _ _ _ rfl _ _ rfl rfl _ _ (hrz _) ?_)
      | (at_builtin; refine wpList_copy_runI _ rfl _ _ 60 60 rfl _ _ rfl rfl (hcpA _ hE1 hE2 _ _) ?_)
      | (at_builtin; refine wpList_copy_runI _ rfl _ _ 60 60 rfl _ _ rfl rfl (hcpB _ (fun _ => rfl) (fun _ => rfl) _ _ _) ?_))
    go_region_law_o (refine step_copy_runI rfl _ _ 60 60 rfl (.slice (some ⟨w.heap.size, x + 1, none⟩) (n + 1 - (x + 1)) (G - (x + 1))) (.slice (some ⟨g, 0 + x, none⟩) (n - x) (n - x)) (by simp [Act.eval, Act.put]) (by simp [Act.eval, Act.put]) (hcpB _ hF1 hF2 3 (G - (x + 1)) (n - x)) ?_)
    all_goals
      go_wp2
      go_ret
      exact HF.out

set_option maxRecDepth 100000 in
set_option maxHeartbeats 1000000 in
theorem putIn_any (g B n x : Nat) (vl : List Value) (f : Nat → Nat → Int) (w : World) (h : RowsP w B (.slice (some ⟨g, 0, none⟩) n n) vl (sqM f n n)) (hx : x ≤ n) (hB : B ≤ w.heap.size) (hn : n ≤ 12) :
    Calls Try.prog 170 #[.slice (some ⟨g, 0, none⟩) n n, .int .i64 (x : Int)] w fun e w' => ∃ g' c' ul, e = .returned (.slice (some ⟨g', 0, none⟩) (n + 1) c') ∧ RowsP w' B (.slice (some ⟨g', 0, none⟩) (n + 1) c') ul (sqM (swF (fun a b => wdF (inR f x a) x b) (n+1) x x) (n + 1) (n + 1)) ∧ Below B w w' := by
  obtain ⟨i0, hi, hz0, hz1, hz2⟩ := info_parts infoInt
  have H := Lib.hid h
  have hblk := h.blk
  rw [sqM_len] at hblk
  have hgl := hblk.1 g rfl
  have HB := Lib.hid hblk
  clear h hblk
  go_enter Try.func170, Try.ntmps170
  go_wp2_with (at_make; refine wpList_make_full _ rfl (.tmp 11) (.tmp 11) 24 rfl w.heap.size 3 i0 (.int .i64 0) 1 Try.underlying24 hi hz0 hz1 .i64 .i64 _ _ n rfl rfl rfl rfl (by rw [hz2]; omega) (by unfold maxLen; omega) (Nat.le_refl _) ?_; intro w1 hown hgrow)
  have hb1 : Below w.heap.size w w1 := (Below.refl _ _).grown hgrow (Nat.le_refl _) (fun k h => by cases h)
  have hz1w : w.heap.size ≤ w1.heap.size := hb1.size
  have hown1 := made_row (fun _ => 0) hown
  rw [show rowF (fun _ => 0) n 0 = fmap (fun _ => (0:Int)) n by simp [rowF, fmap, List.map_const']] at hown1
  have bW := hb1.alloc hb1.size (.cells #[.slice (some ⟨w.heap.size, 0, none⟩) n n] 24)
  have hroW := H.out.below bW (Nat.le_refl _)
  have hownW := hown1.alloc (.cells #[.slice (some ⟨w.heap.size, 0, none⟩) n n] 24)
  have hsl : ∀ i, i < n → ∃ a m c, valAt vl i = .slice a m c := fun i hi => by
    obtain ⟨a9, c9, e9⟩ := (hroW.o.row i (by rw [sqM_len]; exact hi)).form
    exact ⟨a9, _, c9, e9⟩
  have hoW := hroW.o.own
  rw [sqM_len] at hoW
  have HINS := Lib.hid (insRows_any g B n x w1.heap.size vl (.slice (some ⟨w.heap.size, 0, none⟩) n n) _ hoW hsl rfl hx (by omega) (by have := bW.size; omega) (heap_alloc_new w1 _))
  have HROW := Lib.hid hroW
  have HOWN := Lib.hid hownW
  have HBW := Lib.hid bW
  have hBg := (H.out.o.lt g rfl).1
  clear hown hgrow hb1 hown1 bW hroW hownW hoW hsl
  refine HINS.out.mono ?_
  rintro e w2 ⟨g2, c2, rfl, ho2, hg2, hat2⟩
  have hN2 : n + 1 ≤ c2 := by
    rcases ho2.2 with ⟨e0, _⟩ | ⟨g9, cap9, cur9, e0, _, _, h9, _⟩
    · cases e0
    · simp only [Value.slice.injEq] at e0
      obtain ⟨-, -, rfl⟩ := e0
      exact h9
  have hro2 := HROW.out.ins hx HOWN.out hB hgl HB.out.2 ho2 hg2 hat2
  have b2 : Below B w w2 := (HBW.out.mono hB).trans (grown_below hg2 B hBg (by have := HBW.out.size; omega))
  obtain ⟨F, hF⟩ : ∃ F, F = inR f x := ⟨_, rfl⟩
  have HF := Lib.hid hF
  rw [← hF, ← ptM_zero (x := x)] at hro2
  obtain ⟨ul0, hul0⟩ : ∃ ul0, ul0 = vl.take x ++ [.slice (some ⟨w.heap.size, 0, none⟩) n n] ++ vl.drop x := ⟨_, rfl⟩
  rw [← hul0] at hro2
  obtain ⟨N, hN⟩ : ∃ N, N = n + 1 := ⟨_, rfl⟩
  have HN := Lib.hid hN
  have hnN : n ≤ N := by omega
  have hN13 : N ≤ 13 := by omega
  have hxN : x < N := by omega
  rw [← hN] at hro2 hN2 ⊢
  have HR2 := Lib.hid hro2
  have hs2 : w.heap.size ≤ w2.heap.size := b2.size
  clear hro2 ho2 hg2 hF hul0 hN HINS HROW HOWN HBW hat2
  go_wp2_with fail
  go_loopw [17] (fun i wr => ∃ (k : Nat) (ul : List Value), k ≤ N ∧ i = .int .i64 k ∧ RowsP wr B (.slice (some ⟨g2, 0, none⟩) N c2) ul (ptM F n x k) ∧ Below B w wr) (fun i _ => N - (intOf i).toNat)
  case atStart => exact ⟨0, _, Nat.zero_le _, rfl, HR2.out, b2⟩
  case round =>
    clear b2
    obtain ⟨k, ul, hk, rfl, hro, hb⟩ := hrel
    have hbs := hb.size
    by_cases hlt : k < N
    · have k1 : (k : Int) < (N : Int) := by omega
      have hkl : k < n + 1 := by rw [← HN.out]; exact hlt
      have hk9 : k < (ptM F n x k).length := by rw [ptM_len]; exact hkl
      obtain ⟨g4, e4, hg4, hg5, hc4, hf4⟩ := hro.outer hk9
      simp only [Option.some.injEq, Addr.mk.injEq, and_true] at e4
      subst e4
      have hrow := hro.o.row k hk9
      obtain ⟨ar, cr, er⟩ := hrow.form
      have hrl : (rowL (ptM F n x k) k).length = n := by rw [ptM_row hkl, if_neg (Nat.lt_irrefl k), fmap_len]
      have hroA := hro.below ((Below.refl _ _).alloc (Nat.le_refl _) (.cells #[.int .i64 0] 3)) (Nat.le_refl _)
      have HRO := Lib.hid hroA
      have HER := Lib.hid er
      have HTS := Lib.hid (ptM_step (f := F) hkl hx)
      rw [er] at hc4 hrow
      have hlo := hrow.lt
      have HIN := Lib.hid (insOwn_any ar cr x wr.heap.size B (rowL (ptM F n x k) k) _ (hrow.alloc (.cells #[.int .i64 0] 3)) (by rw [hrl]; exact hx) (by rw [hrl]; omega) (by simp; omega) 0 (fun c e => by have := (hlo c e).2; omega) (heap_alloc_new wr _))
      rw [hrl] at hc4 HIN HER hlo
      have HNN : Hid (n + 1 = N) := HN.out.symm
      rw [HNN.out] at HIN
      clear hro hrow er hrl hk9 hkl hroA
      go_wp2_with fail
      refine HIN.out.mono ?_
      rintro e w3 ⟨g5, c5, rfl, ho3, hg3, hat3⟩
      have hs3 : wr.heap.size + 1 ≤ w3.heap.size := by have := hg3.size; simpa using this
      obtain ⟨g9, c9, e9, hg9, hg10, ⟨z9, hz9⟩, hf9, hnew⟩ := HRO.out.growRow (k := k) (by rw [ptM_len, HNN.out]; exact hlt) (by rw [HER.out]; exact hg3) ho3 (fun c e => by
        rw [HER.out]
        simp only [Value.ownBlock, Option.some.injEq] at e
        rcases hat3 with h | h
        · left; rw [h, e]
        · right; omega)
      simp only [Value.slice.injEq, Option.some.injEq, Addr.mk.injEq, and_true] at e9
      obtain ⟨rfl, -, -⟩ := e9
      rw [HTS.out] at hnew
      have HNEW := Lib.hid hnew
      have b3 : Below B w w3 := (hb.alloc (by omega) (.cells #[.int .i64 0] 3)).trans (below_of_grown hg3 (fun c e => (hlo c e).1) (by simp; omega))
      have b4 := b3.setCell (p := ⟨g2, k, none⟩) hg4 (.slice (some ⟨g5, 0, none⟩) N c5)
      clear ho3 hg3 hnew hat3
      go_wp2_with fail
      go_roundw
      case rel => exact ⟨k + 1, _, by omega, by go_num, HNEW.out, b4⟩
      case measure => simp [intOf]; omega
    · obtain rfl : k = N := by omega
      have hf := hro
      rw [show ptM F n x k = sqM (fun a b => wdF (F a) x b) k k by have h := ptM_end (f := F) (n := n) (x := x); rw [← HN.out] at h; exact h] at hf
      have HSW := Lib.hid (swapLast_any g2 c2 c2 B k k x x ul (fun a b => wdF (F a) x b) wr hf (by omega) hxN (by omega) (by omega) (by omega))
      have hxc : x ≤ c2 := by omega
      clear hro hf
      go_wp2_with fail
      refine HSW.out.mono ?_
      rintro e w4 ⟨rfl, hro4, hb4⟩
      have HR4 := Lib.hid hro4
      have b4 := hb.trans hb4
      clear hro4 hb4 HSW
      go_wp2_with fail
      go_ret
      rw [← HN.out]
      refine ⟨g2, c2, ul, rfl, ?_, b4⟩
      have h := HR4.out
      rw [HF.out] at h
      exact h

def addB (s x : Int) : Bool := decide (0 ≤ x) && decide (s + x ≤ 12)
theorem addB_iff {s x : Int} : addB s x = true ↔ 0 ≤ x ∧ s + x ≤ 12 := by simp [addB]
def addW (b : Nat) (s x : Int) (w : World) : World := if addB s x = true then w.setCell ⟨b, 0, none⟩ (.int .i64 (s + x)) else w
theorem iAdd_any (b : Nat) (s x : Int) (v : Value) (w : World) (hv : Var2 w b (.int .i64 s) v) (h0 : 0 ≤ s ∧ s ≤ 12) :
    Calls Try.prog 168 #[.pointer (some ⟨b, 0, none⟩), .int .i64 x] w fun e w' => e = .returned (.bool (addB s x)) ∧ w' = addW b s x w := by
  have ⟨⟨z, c, d⟩, f, g⟩ := hv
  by_cases h1 : x < 0
  · have H : Hid (addB s x = false) := by rw [Hid, ← Bool.not_eq_true, addB_iff]; omega
    go_enter Try.func168, Try.ntmps168
    go_wp2_with fail
    go_ret
    exact ⟨ret_bool H.out.symm, by rw [addW, H.out]; rfl⟩
  · by_cases h2 : 12 - s < x
    · have H : Hid (addB s x = false) := by rw [Hid, ← Bool.not_eq_true, addB_iff]; omega
      go_enter Try.func168, Try.ntmps168
      go_wp2_with fail
      go_ret
      exact ⟨ret_bool H.out.symm, by rw [addW, H.out]; rfl⟩
    · have H : Hid (addB s x = true) := addB_iff.2 (by omega)
      go_enter Try.func168, Try.ntmps168
      go_wp2_with fail
      go_ret
      exact ⟨ret_bool H.out.symm, by rw [addW, H.out]; rfl⟩

theorem infoSum : (Try.prog.info? 161).map (fun i => (i.zero, i.size, i.bytes)) = some (some (.agg #[.int .i64 0, .slice none 0 0]), 2, 32) := by kernel_rfl
theorem valAt_end (vl : List Value) (v : Value) : valAt (vl ++ [v]) vl.length = v := by
  simp [valAt]
/-- the cells of the first k rows, each with its sum ahead of it -/
def pcs (xss : List (List Int)) (vl : List Value) : Nat → List Value
  | 0 => []
  | k+1 => pcs xss vl k ++ [.int .i64 (totR (rowL xss k)), valAt vl k]
theorem pcs_len (xss : List (List Int)) (vl : List Value) : ∀ k, (pcs xss vl k).length = k * 2
  | 0 => rfl
  | k+1 => by rw [pcs, List.length_append, pcs_len xss vl k]; simp; omega
theorem pcs_at {xss : List (List Int)} {vl : List Value} {i : Nat} : ∀ {k : Nat}, i < k → (pcs xss vl k)[i * 2]? = some (.int .i64 (totR (rowL xss i))) ∧ (pcs xss vl k)[i * 2 + 1]? = some (valAt vl i)
  | 0, h => by omega
  | k+1, h => by
    have hl := pcs_len xss vl k
    by_cases e : i = k
    · subst e
      rw [pcs, List.getElem?_append_right (by omega), List.getElem?_append_right (by omega), hl]
      refine ⟨?_, ?_⟩
      · rw [Nat.sub_self]; rfl
      · rw [show i * 2 + 1 - i * 2 = 1 by omega]; rfl
    · rw [pcs, List.getElem?_append_left (by omega), List.getElem?_append_left (by omega)]
      exact pcs_at (by omega)
theorem rowL_app {xss yss : List (List Int)} {k : Nat} (h : k < xss.length) : rowL (xss ++ yss) k = rowL xss k := by
  rw [rowL, rowL, List.getD_eq_getElem?_getD, List.getD_eq_getElem?_getD, List.getElem?_append_left h]
theorem rowL_last (xss : List (List Int)) (r : List Int) : rowL (xss ++ [r]) xss.length = r := by
  simp [rowL]
theorem rowL_take {xss : List (List Int)} {j k : Nat} (h : j < k) : rowL (xss.take k) j = rowL xss j := by
  rw [rowL, rowL, List.getD_eq_getElem?_getD, List.getD_eq_getElem?_getD, List.getElem?_take, if_pos h]
theorem take_snocR {xss : List (List Int)} {k : Nat} (h : k < xss.length) : xss.take (k+1) = xss.take k ++ [rowL xss k] := by
  rw [List.take_succ_eq_append_getElem h]
  simp [rowL, h]
theorem pcs_congr {xss yss : List (List Int)} {vl ul : List Value} : ∀ {k : Nat}, (∀ j, j < k → rowL xss j = rowL yss j ∧ valAt vl j = valAt ul j) → pcs xss vl k = pcs yss ul k
  | 0, _ => rfl
  | k+1, h => by rw [pcs, pcs, pcs_congr (fun j hj => h j (by omega)), (h k (by omega)).1, (h k (by omega)).2]
/-- rows with their sums, each row in a block of its own -/
structure SumP (w : World) (B : Nat) (v : Value) (vl : List Value) (xss : List (List Int)) : Prop where
  own : w.ownsRow B 161 2 v xss.length (pcs xss vl xss.length)
  vlen : vl.length = xss.length
  row : ∀ k, k < xss.length → OwnI w B (valAt vl k) (rowL xss k)
  apart : ∀ k, k < xss.length → ∀ c, (valAt vl k).ownBlock = some c → v.ownBlock ≠ some c
  pair : ∀ j k, j < k → k < xss.length → ∀ c, (valAt vl j).ownBlock = some c → (valAt vl k).ownBlock ≠ some c
theorem SumP.nil (w : World) (B : Nat) : SumP w B (.slice none 0 0) [] [] :=
  ⟨World.ownsRow_nil _ _ _ _, rfl, fun k hk => by simp at hk, fun k hk => by simp at hk, fun j k _ hk => by simp at hk⟩
theorem SumP.form {w : World} {B : Nat} {v : Value} {vl : List Value} {xss : List (List Int)} (h : SumP w B v vl xss) : ∃ a cap, v = .slice a xss.length cap := by
  rcases h.own.2 with ⟨rfl, h0⟩ | ⟨g, cap, cur, rfl, _⟩
  · exact ⟨none, 0, by rw [h0]⟩
  · exact ⟨_, _, rfl⟩
theorem SumP.below {w w' : World} {B B' : Nat} {v : Value} {vl : List Value} {xss : List (List Int)} (h : SumP w B v vl xss) (hb : Below B' w w') (hB : w.heap.size ≤ B') : SumP w' B v vl xss :=
  ⟨ownsRow_bel h.own hb hB, h.vlen, fun k hk => (h.row k hk).below hb hB, h.apart, h.pair⟩
theorem SumP.lt {w : World} {B : Nat} {v : Value} {vl : List Value} {xss : List (List Int)} (h : SumP w B v vl xss) : ∀ b, v.ownBlock = some b → B ≤ b ∧ b < w.heap.size := World.ownsRow.lt h.own
theorem SumP.blk {w : World} {B : Nat} {v : Value} {vl : List Value} {xss : List (List Int)} (h : SumP w B v vl xss) : (∀ c, v.ownBlock = some c → c < w.heap.size) ∧ ∀ k, k < xss.length → ∀ c, (valAt vl k).ownBlock = some c → c < w.heap.size :=
  ⟨fun c e => (h.lt c e).2, fun k hk c e => ((h.row k hk).lt c e).2⟩
theorem SumP.mono {w : World} {B B' : Nat} {v : Value} {vl : List Value} {xss : List (List Int)} (h : SumP w B v vl xss) (hB : B' ≤ B) : SumP w B' v vl xss := by
  refine ⟨⟨h.own.1, ?_⟩, h.vlen, fun k hk => (h.row k hk).mono hB, h.apart, h.pair⟩
  rcases h.own.2 with hn | ⟨g, cap, cur, e, hb, rest⟩
  · exact .inl hn
  · exact .inr ⟨g, cap, cur, e, by omega, rest⟩
/-- the cells of a part -/
theorem SumP.at {w : World} {B n cap : Nat} {a : Option Addr} {vl : List Value} {xss : List (List Int)} (h : SumP w B (.slice a n cap) vl xss) {k : Nat} (hk : k < xss.length) : ∃ g, a = some ⟨g, 0, none⟩ ∧ g < w.heap.size ∧ w.cell? ⟨g, k * 2, none⟩ = some (.int .i64 (totR (rowL xss k))) ∧ w.cell? ⟨g, k * 2 + 1, none⟩ = some (valAt vl k) := by
  rcases h.own.2 with ⟨e, h0⟩ | ⟨g, cap3, cur, e, hb, hg, hn, hm, hs, ht⟩
  · omega
  · simp only [Value.slice.injEq] at e
    obtain ⟨rfl, rfl, rfl⟩ := e
    have ⟨h1, h2⟩ := pcs_at (xss := xss) (vl := vl) hk
    exact ⟨g, rfl, (Array.getElem?_eq_some_iff.1 hg).1, by rw [World.ownsRow.cellAt h.own (k*2) (by omega), h1], by rw [World.ownsRow.cellAt h.own (k*2+1) (by omega), h2]⟩
/-- one part more at the end -/
theorem SumP.snoc {w w' : World} {B C : Nat} {v v' : Value} {vl : List Value} {xss : List (List Int)} {u : Value} {r : List Int} (h : SumP w B v vl xss) (hr : OwnI w C u r) (hBC : B ≤ C) (hvC : ∀ c, v.ownBlock = some c → c < C) (hrC : ∀ k, k < xss.length → ∀ c, (valAt vl k).ownBlock = some c → c < C)
    (ho : w'.ownsRow B 161 2 v' (xss.length + 1) (pcs xss vl xss.length ++ [.int .i64 (totR r), u])) (hg : w.grownBy w' v.ownBlock) (hv' : v'.ownBlock = v.ownBlock ∨ ∃ m, w.heap.size ≤ m ∧ v'.ownBlock = some m) : SumP w' B v' (vl ++ [u]) (xss ++ [r]) := by
  have hl := h.vlen
  have e1 : ∀ k, k < xss.length → valAt (vl ++ [u]) k = valAt vl k := fun k hk => by rw [valAt, valAt, List.getD_eq_getElem?_getD, List.getD_eq_getElem?_getD, List.getElem?_append_left (by omega)]
  have e2 : valAt (vl ++ [u]) xss.length = u := by rw [← hl]; exact valAt_end vl u
  have hur := hr.lt
  refine ⟨?_, by simp [hl], fun k hk => ?_, fun k hk c hc hc2 => ?_, fun j k hjk hk c hc => ?_⟩
  · rw [List.length_append, List.length_singleton, pcs, e2, rowL_last, pcs_congr (yss := xss) (ul := vl) (fun j hj => ⟨rowL_app hj, e1 j hj⟩)]
    exact ho
  · rw [List.length_append, List.length_singleton] at hk
    by_cases e : k = xss.length
    · subst e
      rw [e2, rowL_last]
      exact (hr.mono hBC).kept hg (own_ne (fun c h1 h3 => by have := hvC c h3; have := (hur c h1).1; omega))
    · rw [e1 k (by omega), rowL_app (by omega)]
      exact (h.row k (by omega)).kept hg (own_ne (fun c h1 h3 => h.apart k (by omega) c h1 h3))
  · rw [List.length_append, List.length_singleton] at hk
    by_cases e : k = xss.length
    · subst e
      rw [e2] at hc
      have h1 := hur c hc
      rcases hv' with h3 | ⟨m, hm, h3⟩
      · rw [h3] at hc2; have := hvC c hc2; omega
      · rw [h3] at hc2; simp only [Option.some.injEq] at hc2; omega
    · rw [e1 k (by omega)] at hc
      have h1 := ((h.row k (by omega)).lt c hc).2
      rcases hv' with h3 | ⟨m, hm, h3⟩
      · rw [h3] at hc2; exact h.apart k (by omega) c hc hc2
      · rw [h3] at hc2; simp only [Option.some.injEq] at hc2; omega
  · rw [List.length_append, List.length_singleton] at hk
    rw [e1 j (by omega)] at hc
    by_cases e : k = xss.length
    · subst e
      rw [e2]
      intro h3
      have := hrC j (by omega) c hc
      have := (hur c h3).1
      omega
    · rw [e1 k (by omega)]
      exact h.pair j k hjk (by omega) c hc

theorem Var2.set0 {w : World} {b : Nat} {u v : Value} (h : Var2 w b u v) (u' : Value) : Var2 (w.setCell ⟨b, 0, none⟩ u') b u' v := by
  refine ⟨⟨by simpa using h.1.1, ?_, ?_⟩, by simpa using h.2.1, by simpa using h.2.2⟩
  · rw [World.cell?_setCell_same _ _ _ h.1.2.1]
  · rw [World.cell?_setCell_other _ _ _ _ (by simp)]; exact h.1.2.2

def addV (s x : Int) : Int := if addB s x = true then s + x else s
theorem iPut_any (b : Nat) (s x : Int) (v : Value) (ys : List Int) (w : World) (hv : Var2 w b (.int .i64 s) v) (h0 : 0 ≤ s ∧ s ≤ 12) (ho : OwnI w (b+1) v ys) (h63 : ys.length ≤ 1048576) :
    Calls Try.prog 174 #[.pointer (some ⟨b, 0, none⟩), .int .i64 x, .int .i64 x] w fun e w' => e = .returned (.bool (addB s x)) ∧ ∃ v', Var2 w' b (.int .i64 (addV s x)) v' ∧ OwnI w' (b+1) v' (ys ++ [x]) ∧ Below b w w' := by
  have ⟨⟨z, c, d⟩, f, g⟩ := hv
  have HV := Lib.hid hv
  obtain ⟨av, cv, rfl⟩ := ho.form
  have HO := Lib.hid ho
  clear hv ho
  go_enter Try.func174, Try.ntmps174
  go_wp2_with (at_builtin; refine push_at rfl _ _ rfl (z := x) rfl HO.out rfl (by omega) (by omega) ?_)
  intro v3 w3 o3 hg hat
  have hU := HO.out.lt
  have hv3 := HV.out.kept hg (ne_own (fun c e => by have := (hU c e).1; omega))
  have b3 : Below b w w3 := below_of_grown hg (fun c e => by have := (hU c e).1; omega) (by omega)
  have ⟨⟨z3, c3, d3⟩, f3, g3⟩ := hv3
  clear hg hat hU
  obtain ⟨a3, k3, rfl⟩ := o3.form
  rw [show (ys ++ [x]).length = ys.length + 1 by simp] at o3 ⊢
  go_wp2_with fail
  have hv4 := hv3.set1 (.slice a3 (ys.length + 1) k3)
  refine (iAdd_any b s x _ _ hv4 h0).mono ?_
  rintro e w5 ⟨rfl, hw5⟩
  have H : Hid (∃ v', Var2 w5 b (.int .i64 (addV s x)) v' ∧ OwnI w5 (b+1) v' (ys ++ [x]) ∧ Below b w w5) := by
    rw [hw5, addW, addV]
    cases addB s x
    · exact ⟨.slice a3 (ys.length + 1) k3, by simpa using hv4, by simpa using o3.setBelow (show b < b + 1 by omega) _, by simpa using b3.setCell (Nat.le_refl _) _⟩
    · exact ⟨.slice a3 (ys.length + 1) k3, by simpa using hv4.set0 _, by simpa using (o3.setBelow (show b < b + 1 by omega) _).setBelow (show b < b + 1 by omega) _, by simpa using (b3.setCell (Nat.le_refl _) _).setCell (Nat.le_refl _) _⟩
  clear hw5 hv4
  go_wp2_with fail
  go_ret
  exact ⟨rfl, H.out⟩

set_option maxRecDepth 100000 in
theorem iPutS_any (b : Nat) (s x : Int) (v : Value) (vl : List Value) (xss : List (List Int)) (r : List Int) (ra : Option Addr) (rc B C : Nat) (w : World) (hv : Var2 w b (.int .i64 s) v) (h0 : 0 ≤ s ∧ s ≤ 12)
    (hp : SumP w B v vl xss) (hr : OwnI w C (.slice ra r.length rc) r) (hbB : b + 1 ≤ B) (hBC : B ≤ C) (hC : C ≤ w.heap.size) (hvC : ∀ c, v.ownBlock = some c → c < C) (hrC : ∀ k, k < xss.length → ∀ c, (valAt vl k).ownBlock = some c → c < C) (h63 : xss.length ≤ 1048576) :
    Calls Try.prog 175 #[.pointer (some ⟨b, 0, none⟩), .agg #[.int .i64 (totR r), .slice ra r.length rc], .int .i64 x] w fun e w' => e = .returned (.bool (addB s x)) ∧ ∃ v', Var2 w' b (.int .i64 (addV s x)) v' ∧ SumP w' B v' (vl ++ [.slice ra r.length rc]) (xss ++ [r]) ∧ Below b w w' := by
  obtain ⟨i0, hi, hz0, hz1, hz2⟩ := info_parts infoSum
  have ⟨⟨z, c, d⟩, f, g⟩ := hv
  have HV := Lib.hid hv
  obtain ⟨av, cv, rfl⟩ := hp.form
  have HP := Lib.hid hp
  have HR := Lib.hid hr
  have HB := Lib.hid hvC
  have HRB := Lib.hid hrC
  have Hown := Lib.hid (ownsRow_bel hp.own (w' := ((w.alloc (.cells #[.int .i64 (totR r), .slice ra r.length rc] 161)).alloc (.cells #[.int .i64 (totR r), .slice ra r.length rc] 161)).drew) ((((Below.refl _ _).alloc (Nat.le_refl _) _).alloc (by simp) _).drew) (Nat.le_refl _))
  have hnews := cell_two_new (w.alloc (.cells #[.int .i64 (totR r), .slice ra r.length rc] 161)) (.int .i64 (totR r)) (.slice ra r.length rc) 161
  simp only [World.size_alloc] at hnews
  have Hnews := Lib.hid hnews
  have hpl := pcs_len xss vl xss.length
  have HPL := Lib.hid hpl
  clear hv hp hr hnews hvC hrC hpl
  obtain ⟨PC, hPC⟩ : ∃ PC, PC = pcs xss vl xss.length := ⟨_, rfl⟩
  have HPC := Lib.hid hPC
  rw [← hPC] at Hown HPL
  clear hPC
  obtain ⟨T, hT⟩ : ∃ T, T = totR r := ⟨_, rfl⟩
  have HT := Lib.hid hT
  rw [← hT] at Hown Hnews ⊢
  clear hT
  go_enter Try.func175, Try.ntmps175
  go_wp2_with fail
  go_region_law (refine step_append_lies _ (by rfl) _ _ _ (by rfl) B 161 i0 (.agg #[.int .i64 0, .slice none 0 0]) 2 32 Try.underlying118 hi hz0 hz1 hz2 rfl (by omega) (.slice av xss.length cv) xss.length PC (by rfl) Hown.out ⟨w.heap.size + 1, 0, none⟩ 1 1 [.int .i64 T, .slice ra r.length rc] (by rfl) (by rfl) Hnews.out (by intro u hu; simp at hu; rcases hu with rfl | rfl <;> rfl) (by omega) (by unfold maxLen; omega) (by omega) (by simp; omega) (w.heap.size + 2) (by simp) ?_; intro gg cap3 w3 hown3 hgrow hat hlt3; have hg2 : w.grownBy w3 (Value.slice av xss.length cv).ownBlock := grown_alloc_set (grown_alloc_set (o := .cells #[.int .i64 T, .slice ra r.length rc] 161) ⟨hgrow.os, hgrow.tape, hgrow.output, hgrow.size, hgrow.block⟩); have hv3 := HV.out.kept hg2 (ne_own (fun c e => by have := (HP.out.lt c e).1; omega)); have ⟨⟨z3, c3, d3⟩, f3, g3⟩ := hv3)
  all_goals
    have hp3 : SumP w3 B (.slice (some ⟨gg, 0, none⟩) (xss.length + 1) cap3) (vl ++ [.slice ra r.length rc]) (xss ++ [r]) := by
      refine HP.out.snoc HR.out hBC HB.out HRB.out ?_ hg2 ?_
      · rw [← HPC.out, ← HT.out]; exact hown3
      · rcases hat with h | h
        · exact .inl (by rw [h]; rfl)
        · exact .inr ⟨gg, by omega, rfl⟩
    have b3 : Below b w w3 := below_of_grown hg2 (fun c e => by have := (HP.out.lt c e).1; omega) (by omega)
    have hv4 := hv3.set1 (.slice (some ⟨gg, 0, none⟩) (xss.length + 1) cap3)
    clear hown3 hgrow hat hg2
    go_wp2_with fail
    refine (iAdd_any b s x _ _ hv4 h0).mono ?_
    rintro e w5 ⟨rfl, hw5⟩
    have hset : ∀ (p : Addr) (u : Value) (w9 : World), p.block = b → SumP w9 B (.slice (some ⟨gg, 0, none⟩) (xss.length + 1) cap3) (vl ++ [.slice ra r.length rc]) (xss ++ [r]) → SumP (w9.setCell p u) B (.slice (some ⟨gg, 0, none⟩) (xss.length + 1) cap3) (vl ++ [.slice ra r.length rc]) (xss ++ [r]) := fun p u w9 e h =>
      ⟨ownsRow_setCell_below h.own (by rw [e]; omega) u, h.vlen, fun k hk => (h.row k hk).setBelow (by rw [e]; omega) u, h.apart, h.pair⟩
    have H : Hid (∃ v', Var2 w5 b (.int .i64 (addV s x)) v' ∧ SumP w5 B v' (vl ++ [.slice ra r.length rc]) (xss ++ [r]) ∧ Below b w w5) := by
      rw [hw5, addW, addV]
      cases addB s x
      · exact ⟨.slice (some ⟨gg, 0, none⟩) (xss.length + 1) cap3, by simpa using hv4, by simpa using hset _ _ _ rfl hp3, by simpa using b3.setCell (Nat.le_refl _) _⟩
      · exact ⟨.slice (some ⟨gg, 0, none⟩) (xss.length + 1) cap3, by simpa using hv4.set0 _, by simpa using hset _ _ _ rfl (hset _ _ _ rfl hp3), by simpa using (b3.setCell (Nat.le_refl _) _).setCell (Nat.le_refl _) _⟩
    clear hw5 hv4 hset hp3
    go_wp2_with fail
    go_ret
    exact ⟨rfl, H.out⟩

theorem add_ok {s x : Int} (h : addB s x = true) : addV s x = s + x := by rw [addV, if_pos h]
/-- the first k rows may be rows -/
def adTo (xss : List (List Int)) (k : Nat) : Prop := ∀ i, i < k → (∀ j, j < (rowL xss i).length → 0 ≤ nth (rowL xss i) j) ∧ 0 < totR (rowL xss i)
theorem ad_no_num {xss : List (List Int)} {k j : Nat} (hk : k < xss.length) (hj : j < (rowL xss k).length) (hpre : ∀ i, i < j → 0 ≤ nth (rowL xss k) i) (h : addB (totI (rowL xss k) j) (nth (rowL xss k) j) = false) : adB xss = false := by
  rw [← Bool.not_eq_true]
  intro h2
  have ⟨h3, h4⟩ := adB_iff.1 h2
  have h5 := (adB_row h2 hk).2
  have h6 := totI_mono (xs := rowL xss k) (j := j + 1) (k := (rowL xss k).length) (by omega) (h3 k hk).1
  rw [totR] at h5
  rw [totI] at h6
  rw [← Bool.not_eq_true, addB_iff] at h
  exact h ⟨(h3 k hk).1 j hj, by omega⟩
theorem ad_no_row {xss : List (List Int)} {k : Nat} (hk : k < xss.length) (h : addB (matS xss k) (totR (rowL xss k)) = false) : adB xss = false := by
  rw [← Bool.not_eq_true]
  intro h2
  have ⟨h3, h4⟩ := adB_iff.1 h2
  have h5 := adB_row h2 hk
  have h6 := matS_mono (xss := xss) (j := k + 1) (k := xss.length) (by omega) (fun i hi => by have := (h3 i hi).2; omega)
  rw [matS] at h6
  rw [← Bool.not_eq_true, addB_iff] at h
  exact h ⟨by omega, by omega⟩
set_option maxRecDepth 100000 in
set_option maxHeartbeats 1000000 in
theorem iAddUp_any (a : Option Addr) (xss : List (List Int)) (cap : Nat) (w : World) (hx : RdS w a xss) (hs : xss.length + totS xss xss.length ≤ 1048576) :
    Calls Try.prog 115 #[.slice a xss.length cap] w fun e w' => ∃ s va vn vc, e = .returned (.tuple #[.agg #[.int .i64 s, .slice va vn vc], .bool (adB xss)]) ∧ (adB xss = true → s = matS xss xss.length ∧ ∃ vl, SumP w' w.heap.size (.slice va vn vc) vl xss) ∧ Below w.heap.size w w' := by
  have hlen := hx.len
  have HX := Lib.hid hx
  have HS := Lib.hid hs
  go_enter Try.func115, Try.ntmps115
  clear hx hs
  go_wp2_with fail
  go_loopw [12] (fun i wr => ∃ (k : Nat) (v : Value) (vl : List Value), k ≤ xss.length ∧ i = .int .i64 k ∧ Hid (adTo xss k) ∧ 0 ≤ matS xss k ∧ matS xss k ≤ 12 ∧ Var2 wr w.heap.size (.int .i64 0) (.slice none 0 0) ∧ Var2 wr (w.heap.size + 1) (.int .i64 (matS xss k)) v ∧ SumP wr (w.heap.size + 2) v vl (xss.take k) ∧ Below w.heap.size w wr) (fun i _ => xss.length - (intOf i).toNat)
  case atStart => exact ⟨0, .slice none 0 0, [], Nat.zero_le _, rfl, fun j hj => by omega, by simp [matS], by simp [matS], (Var2.new w _ _ _).alloc _, by have h := Var2.new (w.alloc (.cells #[.int .i64 0, .slice none 0 0] 120)) (.int .i64 0) (.slice none 0 0) 120; rw [World.size_alloc] at h; exact h, by rw [List.take_zero]; exact SumP.nil _ _, (by repeat (first | exact Below.refl _ _ | assumption | refine Below.alloc ?_ (by first | exact Nat.le_refl _ | (simp only [World.size_alloc, World.size_setCell, World.size_drew]; omega) | omega) _ | refine Below.setCell ?_ (by first | exact Nat.le_refl _ | (simp only [World.size_alloc, World.size_setCell, World.size_drew]; omega) | omega) _ | refine Below.drew ?_))⟩
  case round =>
    obtain ⟨k, v, vl, hk, rfl, HAD, hm0, hm1, hR, hA, hp, hb⟩ := hrel
    have ⟨av, cv, ev⟩ := hp.form
    obtain ⟨LK, hLK⟩ : ∃ LK, LK = (xss.take k).length := ⟨_, rfl⟩
    rw [← hLK] at ev
    subst ev
    clear hLK
    have hbs := hb.size
    have ⟨⟨zR, cR, dR⟩, fR, gR⟩ := hR
    have ⟨⟨zA, cA, dA⟩, fA, gA⟩ := hA
    have HR := Lib.hid hR
    have HA := Lib.hid hA
    have HP := Lib.hid hp
    by_cases hlt : k < xss.length
    · obtain ⟨b, off, a', cap', rfl, hbl, hc, hr⟩ := (HX.out.below hb).row k hlt
      have k1 : (k : Int) < (xss.length : Int) := by omega
      have hrl := hr.len
      have hrt := row_tot (xss := xss) hlt
      have hrow : (rowL xss k).length ≤ 1048576 := by have := HS.out; omega
      have HRD := Lib.hid hr
      have HT : Hid (xss.take (k+1) = xss.take k ++ [rowL xss k]) := take_snocR hlt
      have HTL : Hid ((xss.take k).length = k) := by rw [Hid, List.length_take]; omega
      have HNR : Hid (∀ j, j < (rowL xss k).length → (∀ i, i < j → 0 ≤ nth (rowL xss k) i) → addB (totI (rowL xss k) j) (nth (rowL xss k) j) = false → adB xss = false) := fun j hj => ad_no_num hlt hj
      have HNM : Hid (addB (matS xss k) (totR (rowL xss k)) = false → adB xss = false) := ad_no_row hlt
      have HNZ : Hid (totR (rowL xss k) = 0 → adB xss = false) := fun h => by
        rw [← Bool.not_eq_true]; intro h2
        have := (adB_row h2 hlt).1; omega
      have HMN : Hid (matS xss (k+1) = matS xss k + totR (rowL xss k)) := rfl
      have HGD : Hid ((∀ j, j < (rowL xss k).length → 0 ≤ nth (rowL xss k) j) → 0 < totR (rowL xss k) → adTo xss (k+1)) := fun h1 h2 i hi => by
        by_cases e : i = k
        · rw [e]; exact ⟨h1, h2⟩
        · exact HAD.out i (by omega)
      obtain ⟨R, hR9⟩ : ∃ R, R = rowL xss k := ⟨_, rfl⟩
      rw [← hR9] at hc hrl hrow HRD HT HNR HNM HNZ HMN HGD
      obtain ⟨M, hM9⟩ : ∃ M, M = matS xss k := ⟨_, rfl⟩
      rw [← hM9] at hm0 hm1 HA cA HNM HMN
      clear hr hrt hR9 hM9 hR hA hp HAD
      obtain ⟨W1, hW1⟩ : ∃ x : World, x = wr := ⟨_, rfl⟩
      subst hW1
      go_wp2_with fail
      go_loopw [18] (fun i wr => ∃ (j : Nat) (u : Value), j ≤ R.length ∧ i = .int .i64 j ∧ Hid (∀ i, i < j → 0 ≤ nth R i) ∧ 0 ≤ totI R j ∧ totI R j ≤ 12 ∧ Var2 wr W1.heap.size (.int .i64 (totI R j)) u ∧ OwnI wr (W1.heap.size + 1) u (R.take j) ∧ Below W1.heap.size W1 wr) (fun i _ => R.length - (intOf i).toNat)
      case atStart => exact ⟨0, .slice none 0 0, Nat.zero_le _, rfl, fun j hj => by omega, by simp [totI], by simp [totI], Var2.new W1 _ _ _, by rw [List.take_zero]; exact OwnI.nil _ _, (by repeat (first | exact Below.refl _ _ | assumption | refine Below.alloc ?_ (by first | exact Nat.le_refl _ | (simp only [World.size_alloc, World.size_setCell, World.size_drew]; omega) | omega) _ | refine Below.setCell ?_ (by first | exact Nat.le_refl _ | (simp only [World.size_alloc, World.size_setCell, World.size_drew]; omega) | omega) _ | refine Below.drew ?_))⟩
      case round =>
        obtain ⟨j, u, hj, rfl, HNN, ht0, ht1, hQ, ho, hbq⟩ := hrel
        have hbqs := hbq.size
        have ⟨⟨zQ, cQ, dQ⟩, fQ, gQ⟩ := hQ
        have hR2 := HR.out.below hbq
        have hA2 := HA.out.below hbq
        have ⟨⟨zR2, cR2, dR2⟩, fR2, gR2⟩ := hR2
        have ⟨⟨zA2, cA2, dA2⟩, fA2, gA2⟩ := hA2
        have HR2 := Lib.hid hR2
        have HA2 := Lib.hid hA2
        clear hR2 hA2
        by_cases hlt2 : j < R.length
        · obtain ⟨b2, off2, rfl, hbl2, hc2⟩ := (HRD.out.below hbq).cell j hlt2
          have j1 : (j : Int) < (R.length : Int) := by omega
          have htk : R.take (j+1) = R.take j ++ [nth R j] := by
            rw [List.take_succ_eq_append_getElem hlt2, nth_get _ _ hlt2]
          have HTK := Lib.hid htk
          have hlj : (R.take j).length ≤ 1048576 := by rw [List.length_take]; omega
          have HTI : Hid (totI R (j+1) = totI R j + nth R j) := rfl
          have HNF := Lib.hid (HNR.out j hlt2 HNN.out)
          obtain ⟨Z, hZ⟩ : ∃ Z, Z = nth R j := ⟨_, rfl⟩
          have HZ := Lib.hid hZ
          rw [← hZ] at hc2 HTK HTI HNF
          obtain ⟨S, hS⟩ : ∃ S, S = totI R j := ⟨_, rfl⟩
          rw [← hS] at ht0 ht1 cQ hQ HTI HNF
          have HQ := Lib.hid hQ
          have HO := Lib.hid ho
          have hPut := iPut_any W1.heap.size S Z u (R.take j) wr HQ.out ⟨ht0, ht1⟩ HO.out hlj
          have HPUT := Lib.hid hPut
          clear htk hZ hS hQ ho hPut
          cases had : addB S Z
          · have H := HNF.out had
            have HF := Lib.hid had
            have HH := Lib.hid H
            clear had H
            go_wp2_with fail
            refine HPUT.out.mono ?_
            rintro e w5 ⟨rfl, v5, hv5, ho5, hb5⟩
            rw [HF.out]
            have b5 : Below W1.heap.size W1 w5 := hbq.trans hb5
            have hR5 := HR.out.below b5
            have hA5 := HA.out.below b5
            have ⟨⟨zR5, cR5, dR5⟩, fR5, gR5⟩ := hR5
            have ⟨⟨zA5, cA5, dA5⟩, fA5, gA5⟩ := hA5
            have bw5 := hb.trans (b5.mono hbs)
            clear hv5 ho5 hb5
            go_wp2_with fail
            have hR7 := hR5.set (.int .i64 M) (.slice av LK cv)
            have b7 := (bw5.setCell (p := ⟨w.heap.size, 0, none⟩) (Nat.le_refl _) (.int .i64 M)).setCell (p := ⟨w.heap.size, 1, none⟩) (Nat.le_refl _) (.slice av LK cv)
            refine bodyPost_ret (v := .tuple #[.agg #[.int .i64 M, .slice av LK cv], .bool false]) (by have ⟨⟨_, q1, q2⟩, _, _⟩ := hR7; simp [results, Try.results115, go_sem, q1, q2]) rfl ?_
            exact ⟨M, av, LK, cv, by rw [HH.out], (by intro h; rw [HH.out] at h; cases h), b7⟩
          · have hge := addB_iff.1 had
            have HF := Lib.hid had
            have HV := Lib.hid (add_ok had)
            clear had HNF
            go_wp2_with fail
            refine HPUT.out.mono ?_
            rintro e w5 ⟨rfl, v5, hv5, ho5, hb5⟩
            rw [HF.out]
            rw [HV.out] at hv5
            have b5 : Below W1.heap.size W1 w5 := hbq.trans hb5
            go_wp2_with fail
            go_roundw
            case rel =>
              refine ⟨j + 1, v5, by omega, by go_num, fun i hi => ?_, by rw [HTI.out]; omega, by rw [HTI.out]; omega, by rw [HTI.out]; exact hv5, by rw [HTK.out]; exact ho5, b5⟩
              by_cases e : i = j
              · rw [e, ← HZ.out]; omega
              · exact HNN.out i (by omega)
            case measure => simp [intOf]; omega
        · obtain rfl : j = R.length := by omega
          have HTR : Hid (totI R R.length = totR R) := rfl
          rw [HTR.out] at ht0 ht1 cQ hQ
          rw [List.take_length] at ho
          obtain ⟨au, cu, rfl⟩ := ho.form
          have HO := Lib.hid ho
          have HP2 := Lib.hid (HP.out.below hbq (Nat.le_refl _))
          obtain ⟨S, hS⟩ : ∃ S, S = totR R := ⟨_, rfl⟩
          have HSS := Lib.hid hS
          rw [← hS] at ht0 ht1 cQ hQ HNM HNZ HMN HGD
          have HQ := Lib.hid hQ
          have hlk : (xss.take k).length ≤ 1048576 := by rw [HTL.out]; have := HS.out; omega
          have bwq := hb.trans (hbq.mono hbs)
          clear hS hQ ho
          by_cases hz : S = 0
          · have hzz : (S == 0) = true := by simp [hz]
            have HH := Lib.hid (HNZ.out hz)
            clear hz
            go_wp2_with fail
            have hR7 := HR2.out.set (.int .i64 M) (.slice av LK cv)
            have b7 := (bwq.setCell (p := ⟨w.heap.size, 0, none⟩) (Nat.le_refl _) (.int .i64 M)).setCell (p := ⟨w.heap.size, 1, none⟩) (Nat.le_refl _) (.slice av LK cv)
            refine bodyPost_ret (v := .tuple #[.agg #[.int .i64 M, .slice av LK cv], .bool false]) (by have ⟨⟨_, q1, q2⟩, _, _⟩ := hR7; simp [results, Try.results115, go_sem, q1, q2]) rfl ?_
            exact ⟨M, av, LK, cv, by rw [HH.out], (by intro h; rw [HH.out] at h; cases h), b7⟩
          · have hzz : (S == 0) = false := by simp [hz]
            have hPut := iPutS_any (w.heap.size + 1) M S (.slice av LK cv) vl (xss.take k) R au cu (w.heap.size + 2) (W1.heap.size + 1) wr HA2.out ⟨hm0, hm1⟩ HP2.out HO.out (by omega) (by omega) (by omega) (fun c e => by have := HP.out.blk.1 c e; omega) (fun i hi c e => by have := HP.out.blk.2 i hi c e; omega) hlk
            rw [← HSS.out] at hPut
            have HPUT := Lib.hid hPut
            clear hPut
            cases had : addB M S
            · have HF := Lib.hid had
              have HH := Lib.hid (HNM.out had)
              clear had hz
              go_wp2_with fail
              refine HPUT.out.mono ?_
              rintro e w5 ⟨rfl, v5, hv5, ho5, hb5⟩
              rw [HF.out]
              have ⟨⟨zA5, cA5, dA5⟩, fA5, gA5⟩ := hv5
              have hR5 : Var2 w5 w.heap.size (.int .i64 0) (.slice none 0 0) := ⟨⟨by have := hb5.size; omega, (hb5.cell (p := ⟨w.heap.size, 0, none⟩) (show w.heap.size < w.heap.size + 1 by omega)).trans cR2, (hb5.cell (p := ⟨w.heap.size, 1, none⟩) (show w.heap.size < w.heap.size + 1 by omega)).trans dR2⟩, (hb5.frozen (p := ⟨w.heap.size, 0, none⟩) (show w.heap.size < w.heap.size + 1 by omega)).trans fR2, (hb5.frozen (p := ⟨w.heap.size, 1, none⟩) (show w.heap.size < w.heap.size + 1 by omega)).trans gR2⟩
              have ⟨⟨zR5, cR5, dR5⟩, fR5, gR5⟩ := hR5
              have bw5 := bwq.trans (hb5.mono (by omega : w.heap.size ≤ w.heap.size + 1))
              obtain ⟨D, hD⟩ : ∃ D, D = addV M S := ⟨_, rfl⟩
              rw [← hD] at cA5
              obtain ⟨a5, c5, e5⟩ := ho5.form
              obtain ⟨L5, hL5⟩ : ∃ L5, L5 = (xss.take k ++ [R]).length := ⟨_, rfl⟩
              rw [← hL5] at e5
              rw [e5] at dA5
              clear hL5 e5
              clear hv5 ho5 hb5 hD
              go_wp2_with fail
              have hR7 := hR5.set (.int .i64 D) (.slice a5 L5 c5)
              have b7 := (bw5.setCell (p := ⟨w.heap.size, 0, none⟩) (Nat.le_refl _) (.int .i64 D)).setCell (p := ⟨w.heap.size, 1, none⟩) (Nat.le_refl _) (.slice a5 L5 c5)
              refine bodyPost_ret (v := .tuple #[.agg #[.int .i64 D, .slice a5 L5 c5], .bool false]) (by have ⟨⟨_, q1, q2⟩, _, _⟩ := hR7; simp [results, Try.results115, go_sem, q1, q2]) rfl ?_
              exact ⟨D, a5, L5, c5, by rw [HH.out], (by intro h; rw [HH.out] at h; cases h), b7⟩
            · have hge := addB_iff.1 had
              have HF := Lib.hid had
              have HV := Lib.hid (add_ok had)
              clear had
              go_wp2_with fail
              refine HPUT.out.mono ?_
              rintro e w5 ⟨rfl, v5, hv5, ho5, hb5⟩
              rw [HF.out]
              rw [HV.out] at hv5
              have hR5 : Var2 w5 w.heap.size (.int .i64 0) (.slice none 0 0) := ⟨⟨by have := hb5.size; omega, (hb5.cell (p := ⟨w.heap.size, 0, none⟩) (show w.heap.size < w.heap.size + 1 by omega)).trans cR2, (hb5.cell (p := ⟨w.heap.size, 1, none⟩) (show w.heap.size < w.heap.size + 1 by omega)).trans dR2⟩, (hb5.frozen (p := ⟨w.heap.size, 0, none⟩) (show w.heap.size < w.heap.size + 1 by omega)).trans fR2, (hb5.frozen (p := ⟨w.heap.size, 1, none⟩) (show w.heap.size < w.heap.size + 1 by omega)).trans gR2⟩
              have bw5 := bwq.trans (hb5.mono (by omega : w.heap.size ≤ w.heap.size + 1))
              have HG2 := Lib.hid (HGD.out HNN.out (by omega))
              go_wp2_with fail
              go_roundw
              case rel => exact ⟨k + 1, v5, _, by omega, by go_num, HG2.out, by rw [HMN.out]; omega, by rw [HMN.out]; omega, hR5, by rw [HMN.out]; exact hv5, by rw [HT.out]; exact ho5, bw5⟩
              case measure => simp [intOf]; omega
    · obtain rfl : k = xss.length := by omega
      have HH : Hid (adB xss = true) := adB_iff.2 ⟨HAD.out, hm1⟩
      obtain ⟨M, hM9⟩ : ∃ M, M = matS xss xss.length := ⟨_, rfl⟩
      have HM := Lib.hid hM9
      rw [← hM9] at hm0 hm1 HA cA
      clear hM9 hR hA hp
      go_wp2_with fail
      have hR7 := HR.out.set (.int .i64 M) (.slice av LK cv)
      have b7 := (hb.setCell (p := ⟨w.heap.size, 0, none⟩) (Nat.le_refl _) (.int .i64 M)).setCell (p := ⟨w.heap.size, 1, none⟩) (Nat.le_refl _) (.slice av LK cv)
      refine bodyPost_ret (v := .tuple #[.agg #[.int .i64 M, .slice av LK cv], .bool true]) (by have ⟨⟨_, q1, q2⟩, _, _⟩ := hR7; simp [results, Try.results115, go_sem, q1, q2]) rfl ?_
      refine ⟨M, av, LK, cv, by rw [HH.out], fun _ => ⟨HM.out, vl, ?_⟩, b7⟩
      have h := HP.out
      rw [List.take_length] at h
      have hset : ∀ (p : Addr) (u : Value) (w9 : World), p.block = w.heap.size → SumP w9 (w.heap.size + 2) (.slice av LK cv) vl xss → SumP (w9.setCell p u) (w.heap.size + 2) (.slice av LK cv) vl xss := fun p u w9 e h =>
        ⟨ownsRow_setCell_below h.own (by rw [e]; omega) u, h.vlen, fun k hk => (h.row k hk).setBelow (by rw [e]; omega) u, h.apart, h.pair⟩
      exact (hset _ _ _ rfl (hset _ _ _ rfl h)).mono (by omega)

set_option maxRecDepth 100000 in
theorem isUpper_any (a : Option Addr) (xss : List (List Int)) (cap : Nat) (w : World) (hx : RdC w a xss) :
    Calls Try.prog 173 #[.agg #[.slice a xss.length cap]] w fun e w' => e = .returned (.bool (upB xss)) ∧ Below w.heap.size w w' := by
  have hlen := hx.rd.len
  have HX := Lib.hid hx
  have b1 : Below w.heap.size w (w.alloc (.cells #[.slice a xss.length cap] 62)) := (by repeat (first | exact Below.refl _ _ | assumption | refine Below.alloc ?_ (by first | exact Nat.le_refl _ | (simp only [World.size_alloc, World.size_setCell, World.size_drew]; omega) | omega) _ | refine Below.setCell ?_ (by first | exact Nat.le_refl _ | (simp only [World.size_alloc, World.size_setCell, World.size_drew]; omega) | omega) _ | refine Below.drew ?_))
  clear hx
  go_enter Try.func173, Try.ntmps173
  go_wp2_with fail
  go_loop [10] (fun i => ∃ k : Nat, k ≤ xss.length ∧ i = .int .i64 k ∧ Hid (∀ j, j < k → (rowL xss j).length = xss.length ∧ ∀ q, q < j → atM xss j q = 0)) (fun i => xss.length - (intOf i).toNat)
  case atStart => exact ⟨0, Nat.zero_le _, rfl, fun j hj => by omega⟩
  case round =>
    obtain ⟨k, hk, rfl, HA⟩ := hrel
    by_cases hlt : k < xss.length
    · obtain ⟨b, off, a', cap', rfl, hbl, hc, hr, hcp⟩ := (HX.out.below b1).row hlt
      have k1 : (k : Int) < (xss.length : Int) := by omega
      by_cases hq : (rowL xss k).length = xss.length
      · have hqq : (((rowL xss k).length : Int) != (xss.length : Int)) = false := by simp [hq]
        have HQ := Lib.hid hq
        obtain ⟨b2, off2, rfl, hbl2, hc2⟩ := hr.cell 0 (by omega)
        have HR := Lib.hid hr
        have k2 : k ≤ cap' := by omega
        have k3 : k ≤ (rowL xss k).length := by omega
        have hrl := hr.len
        clear hq hr hc2
        go_wp2_with fail
        go_loop [25] (fun i => ∃ q : Nat, q ≤ k ∧ i = .int .i64 q ∧ Hid (∀ j, j < q → atM xss k j = 0)) (fun i => k - (intOf i).toNat)
        case atStart => exact ⟨0, Nat.zero_le _, rfl, fun j hj => by omega⟩
        case round =>
          obtain ⟨q, hq2, rfl, HU⟩ := hrel
          by_cases hlt2 : q < k
          · obtain ⟨b3, off3, e3, hbl3, hc3⟩ := HR.out.cell q (by omega)
            simp only [Option.some.injEq, Addr.mk.injEq, and_true] at e3
            obtain ⟨rfl, rfl⟩ := e3
            have q1 : (q : Int) < (k : Int) := by omega
            by_cases hz : nth (rowL xss k) q = 0
            · have hzz : (nth (rowL xss k) q != 0) = false := by simp [hz]
              have HZ : Hid (atM xss k q = 0) := hz
              clear hz
              go_wp2_with fail
              go_round
              case rel =>
                refine ⟨q + 1, by omega, by go_num, fun j hj => ?_⟩
                by_cases e : j = q
                · rw [e]; exact HZ.out
                · exact HU.out j (by omega)
              case measure => simp [intOf]; omega
            · have hzz : (nth (rowL xss k) q != 0) = true := by simp [hz]
              have H : Hid (upB xss = false) := by
                rw [Hid, ← Bool.not_eq_true, upB_iff]
                intro h
                exact hz ((h k hlt).2 q hlt2)
              clear hz
              go_wp2_with fail
              go_ret
              exact ⟨ret_bool H.out.symm, (by repeat (first | exact Below.refl _ _ | assumption | refine Below.alloc ?_ (by first | exact Nat.le_refl _ | (simp only [World.size_alloc, World.size_setCell, World.size_drew]; omega) | omega) _ | refine Below.setCell ?_ (by first | exact Nat.le_refl _ | (simp only [World.size_alloc, World.size_setCell, World.size_drew]; omega) | omega) _ | refine Below.drew ?_))⟩
          · obtain rfl : q = k := by omega
            go_wp2_with fail
            go_round
            case rel =>
              refine ⟨q + 1, by omega, by go_num, fun j hj => ?_⟩
              by_cases e : j = q
              · rw [e]; exact ⟨HQ.out, HU.out⟩
              · exact HA.out j (by omega)
            case measure => simp [intOf]; omega
      · have hqq : (((rowL xss k).length : Int) != (xss.length : Int)) = true := by simp; omega
        have H : Hid (upB xss = false) := by
          rw [Hid, ← Bool.not_eq_true, upB_iff]
          intro h
          exact hq (h k hlt).1
        clear hq hr
        go_wp2_with fail
        go_ret
        exact ⟨ret_bool H.out.symm, (by repeat (first | exact Below.refl _ _ | assumption | refine Below.alloc ?_ (by first | exact Nat.le_refl _ | (simp only [World.size_alloc, World.size_setCell, World.size_drew]; omega) | omega) _ | refine Below.setCell ?_ (by first | exact Nat.le_refl _ | (simp only [World.size_alloc, World.size_setCell, World.size_drew]; omega) | omega) _ | refine Below.drew ?_))⟩
    · obtain rfl : k = xss.length := by omega
      have H : Hid (upB xss = true) := upB_iff.2 HA.out
      go_wp2_with fail
      go_ret
      exact ⟨ret_bool H.out.symm, (by repeat (first | exact Below.refl _ _ | assumption | refine Below.alloc ?_ (by first | exact Nat.le_refl _ | (simp only [World.size_alloc, World.size_setCell, World.size_drew]; omega) | omega) _ | refine Below.setCell ?_ (by first | exact Nat.le_refl _ | (simp only [World.size_alloc, World.size_setCell, World.size_drew]; omega) | omega) _ | refine Below.drew ?_))⟩

def colF (xss : List (List Int)) (k q : Nat) (a b : Nat) : Int := if b < k ∨ (b = k ∧ a < q) then atM xss b a else 0
theorem colF_end {xss : List (List Int)} {n : Nat} : sqM (colF xss n 0) n n = sqM (fun a b => atM xss b a) n n :=
  sqM_congr (fun a ha b hb => by rw [colF, if_pos (.inl hb)])
theorem colF_next {xss : List (List Int)} {n k : Nat} : sqM (colF xss k n) n n = sqM (colF xss (k+1) 0) n n :=
  sqM_congr (fun a ha b hb => by
    rw [colF, colF]
    by_cases h : b < k + 1
    · rw [if_pos (by omega), if_pos (.inl h)]
    · rw [if_neg (by omega), if_neg (by omega)])
theorem colF_zero {xss : List (List Int)} {n : Nat} : sqM (fun _ _ => 0) n n = sqM (colF xss 0 0) n n :=
  sqM_congr (fun a ha b hb => by rw [colF, if_neg (by omega)])
theorem colF_step {xss : List (List Int)} {n k q : Nat} (hk : k < n) (hq : q < n) : setM (sqM (colF xss k q) n n) q k (atM xss k q) = sqM (colF xss k (q+1)) n n := by
  rw [setM_sq hq hk]
  refine sqM_congr (fun a ha b hb => ?_)
  rw [colF, colF]
  by_cases h : a = q ∧ b = k
  · obtain ⟨rfl, rfl⟩ := h
    rw [if_pos ⟨rfl, rfl⟩, if_pos (.inr ⟨rfl, by omega⟩)]
  · rw [if_neg h]
    by_cases h2 : b < k ∨ (b = k ∧ a < q)
    · rw [if_pos h2, if_pos (by omega)]
    · rw [if_neg h2, if_neg (by omega)]
set_option maxRecDepth 100000 in
set_option maxHeartbeats 1000000 in
theorem columnsOf_any (a : Option Addr) (xss : List (List Int)) (cap : Nat) (w : World) (hx : RdS w a xss) (h12 : xss.length ≤ 12) (hl : ∀ k, k < xss.length → (rowL xss k).length = xss.length) :
    Calls Try.prog 116 #[.agg #[.slice a xss.length cap]] w fun e w' => ∃ g vl, e = .returned (.slice (some ⟨g, 0, none⟩) xss.length xss.length) ∧ RowsP w' w.heap.size (.slice (some ⟨g, 0, none⟩) xss.length xss.length) vl (colsL xss) ∧ Below w.heap.size w w' := by
  have hlen := hx.len
  have HX := Lib.hid hx
  have HL := Lib.hid hl
  clear hx hl
  go_enter Try.func116, Try.ntmps116
  go_wp2_with fail
  refine (zeroRows_any xss.length _ h12).mono ?_
  rintro e w1 ⟨g, vl0, rfl, hro0, hb0⟩
  have b1 : Below w.heap.size w w1 := Below.trans (by repeat (first | exact Below.refl _ _ | assumption | refine Below.alloc ?_ (by first | exact Nat.le_refl _ | (simp only [World.size_alloc, World.size_setCell, World.size_drew]; omega) | omega) _ | refine Below.setCell ?_ (by first | exact Nat.le_refl _ | (simp only [World.size_alloc, World.size_setCell, World.size_drew]; omega) | omega) _ | refine Below.drew ?_)) (hb0.mono (by first | (simp only [World.size_alloc, World.size_setCell, World.size_drew]; omega) | omega))
  have hro1 := hro0.mono (B' := w.heap.size) (by simp)
  rw [colF_zero (xss := xss)] at hro1
  have hc0 := (hb0.cell (p := ⟨w.heap.size, 0, none⟩) (by simp)).trans (show _ = some (Value.slice a xss.length cap) by simp)
  have hs1 := b1.size
  obtain ⟨N, hN⟩ : ∃ N, N = xss.length := ⟨_, rfl⟩
  have HN := Lib.hid hN
  rw [← hN] at hlen h12 hro1 hc0 ⊢
  have HRO := Lib.hid hro1
  clear hro0 hro1 hb0 hN
  go_wp2_with fail
  go_loopw [15] (fun i wr => ∃ (k : Nat) (vl : List Value), k ≤ N ∧ i = .int .i64 k ∧ RowsP wr w.heap.size (.slice (some ⟨g, 0, none⟩) N N) vl (sqM (colF xss k 0) N N) ∧ Below w.heap.size w wr) (fun i _ => N - (intOf i).toNat)
  case atStart => exact ⟨0, _, Nat.zero_le _, rfl, HRO.out, b1⟩
  case round =>
    obtain ⟨k, vl, hk, rfl, hro, hb⟩ := hrel
    have hbs := hb.size
    have HR := Lib.hid hro
    clear hro
    by_cases hlt : k < N
    · obtain ⟨b, off, a', cap', rfl, hbl, hc, hr⟩ := HX.out.row k (by rw [← HN.out]; exact hlt)
      have hrn := HL.out k (by rw [← HN.out]; exact hlt)
      rw [← HN.out] at hrn
      obtain ⟨b2, off2, rfl, hbl2, hc2⟩ := hr.cell 0 (by omega)
      rw [hrn] at hc
      have hc1 := (hb.cell (p := ⟨b, off + k, none⟩) hbl).trans hc
      have HRN := Lib.hid hrn
      have HRD := Lib.hid hr
      have hbl1 : b < wr.heap.size := by omega
      have k1 : (k : Int) < (N : Int) := by omega
      clear hrn hr hc2 hc
      go_wp2_with fail
      go_loopw [22] (fun i wq => ∃ (q : Nat) (vl : List Value), q ≤ N ∧ i = .int .i64 q ∧ RowsP wq w.heap.size (.slice (some ⟨g, 0, none⟩) N N) vl (sqM (colF xss k q) N N) ∧ Below w.heap.size w wq) (fun i _ => N - (intOf i).toNat)
      case atStart => exact ⟨0, _, Nat.zero_le _, rfl, HR.out, hb⟩
      case round =>
        obtain ⟨q, vl2, hq, rfl, hro2, hb2⟩ := hrel
        by_cases hlt2 : q < N
        · obtain ⟨b3, off3, e3, hbl3, hc3⟩ := (HRD.out.below hb2).cell q (by rw [HRN.out]; exact hlt2)
          simp only [Option.some.injEq, Addr.mk.injEq, and_true] at e3
          obtain ⟨rfl, rfl⟩ := e3
          obtain ⟨g4, e4, hg4, hg5, hc4, hf4⟩ := hro2.outer (k := q) (by rw [sqM_len]; exact hlt2)
          simp only [Option.some.injEq, Addr.mk.injEq, and_true] at e4
          subst e4
          obtain ⟨g6, c6, e6, hg6, hg7, hc6, hf6, hnew⟩ := hro2.num (i := q) (j := k) (by rw [sqM_len]; exact hlt2) (by rw [sqM_rlen hlt2]; exact hlt)
          have hn2 := hnew (atM xss k q)
          rw [colF_step hlt hlt2] at hn2
          rw [e6, sqM_rlen hlt2] at hc4
          have HN2 := Lib.hid hn2
          have q1 : (q : Int) < (N : Int) := by omega
          have hat : nth (rowL xss k) q = atM xss k q := rfl
          rw [hat] at hc3
          have b7 := hb2.setCell (p := ⟨g6, k, none⟩) hg6 (.int .i64 (atM xss k q))
          clear hro2 hnew hn2 hat e6
          go_wp2_with fail
          go_roundw
          case rel => exact ⟨q + 1, vl2, by omega, by go_num, HN2.out, b7⟩
          case measure => simp [intOf]; omega
        · obtain rfl : q = N := by omega
          rw [colF_next] at hro2
          go_wp2_with fail
          go_roundw
          case rel => exact ⟨k + 1, _, by omega, by go_num, hro2, hb2⟩
          case measure => simp [intOf]; omega
    · obtain rfl : k = N := by omega
      have HR2 := HR.out
      rw [colF_end] at HR2
      have HE : Hid (colsL xss = sqM (fun a b => atM xss b a) k k) := by rw [Hid, colsL_sq, ← HN.out]
      have HR3 := Lib.hid HR2
      clear HR2
      go_wp2_with fail
      go_ret
      exact ⟨g, vl, by rw [← HN.out]; rfl, by rw [HE.out, ← HN.out]; exact HR3.out, hb⟩

end Go.Proofs.Ytkpfjemlldiogaa.ascentsAreMatrices
