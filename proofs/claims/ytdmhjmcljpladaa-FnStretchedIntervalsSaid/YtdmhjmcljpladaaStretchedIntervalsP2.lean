/- A part of the proof of YtdmhjmcljpladaaStretchedIntervals: contracts of functions. -/
import Derived.Test.YtdmhjmcljpladaaRows
import Derived.WalkKit
import Derived.WalkSpells
import Derived.WalkLawsBesides
import Derived.Deep.QuietTactic
import Derived.BigQuiet
import Derived.ProofKit
import Derived.OpenShut
import Derived.ShutString
import Derived.ChangeOld
import Derived.Below
import Derived.Lib.SmallJoins
import Derived.Lib.Hide
import Derived.Maps.AppendAt
import Derived.Deep.AppendLies
import Derived.Deep.RegionHeld3
import Derived.Deep.DeepCutAuto
import Derived.StillTail
import Derived.Deep.RegionLaw
import Derived.Shelf.Small.Bits
import Derived.Shelf.Small.Wraps
import Derived.Shelf.Strconv.Itoa0
import Derived.Shelf.Sort.Plain
import Derived.Shelf.Slices.Reverse
import Derived.Shelf.Slices.Equal
import Derived.Shelf.Slices.CompactI
import Derived.Shelf.Slices.Delete
import Derived.Shelf.Slices.Cells
import Derived.Shelf.Slices.In.SortNone
import Derived.Shelf.Slices.Empties2
import Derived.Sort.OwnSortedInts
import Derived.Lib.SlicesCompact
import Derived.Lib.RowBridge
import Derived.Test.YtdmhjmcljpladaaStretchedIntervalsP1
namespace Go.Proofs.Ytdmhjmcljpladaa.stretchedIntervals
open Go Go.RowKit
set_option linter.unusedVariables false
set_option linter.unusedSimpArgs false
set_option maxHeartbeats 400000
open Go.Shelf
/-- one number more at the end of a row that is owned -/
theorem push_at {ops : Array Oper} {rest : List Oper} {o : Oper} {a : Act} {Q : Exit → Act → World → Prop} (hgd : o.guard = none) (s x : Operand)
    (ho : o.op = .call { callee := .builtin .append, args := #[s, x], argTypes := #[26, 26] }) {wr : World} {B : Nat} {v : Value} {ys : List Int} {z : Int}
    (hs : a.eval s = v) (hown : OwnI wr B v ys) (hx : a.eval x = .slice (some ⟨wr.heap.size, 0, none⟩) 1 1) (h63 : ys.length ≤ 1048576) (hB : B ≤ wr.heap.size)
    (h : ∀ v' w', OwnI w' B v' (ys ++ [z]) → wr.grownBy w' v.ownBlock → (v'.ownBlock = v.ownBlock ∨ v'.ownBlock = some (wr.heap.size + 1)) → wpList Try.prog ops Q rest (a.put o.dst v') w') :
    wpList Try.prog ops Q (o :: rest) a (wr.alloc (.cells #[.int .i64 z] 3)) := by
  obtain ⟨i0, hi, hz0, hz1, hz2⟩ := info_parts infoInt
  refine wpList_append_own_at _ hgd s x 26 ho B 3 i0 (.int .i64 0) 1 8 Try.underlying26 hi hz0 hz1 hz2 rfl (by decide) v ys.length (ys.map (Value.int .i64)) hs (hown.alloc _) ⟨wr.heap.size, 0, none⟩ 1 1 [.int .i64 z] hx rfl (cell_one_new _ _ _) (by intro u hu; simp at hu; subst hu; rfl) (by unfold maxLen; omega) (by omega) (by simp; omega) ?_
  intro v' w' ho2 hg _ hat
  refine h v' w' ?_ (grown_alloc_set hg) (by simpa using hat)
  unfold OwnI
  rw [List.length_append, List.map_append]
  exact ho2
/-- the same at a step of a region that draws its order; the new number lies somewhere -/
theorem step_push {ops : Array Oper} {o : Oper} {a : Act} {K : Act → World → Prop} {Q : Exit → Act → World → Prop} {E : Prop} (hgd : o.guard = none) (s x : Operand)
    (ho : o.op = .call { callee := .builtin .append, args := #[s, x], argTypes := #[26, 26] }) {W : World} {B g n : Nat} {v : Value} {ys : List Int} {z : Int}
    (hs : a.eval s = v) (hx : a.eval x = .slice (some ⟨g, 0, none⟩) 1 1) (hown : OwnI W B v ys) (hn : ys.length = n) (hz : W.cell? ⟨g, 0, none⟩ = some (.int .i64 z)) (h63 : n ≤ 1048576) (hB : B ≤ W.heap.size)
    (h : ∀ g' cap w', OwnI w' B (.slice (some ⟨g', 0, none⟩) (n + 1) cap) (ys ++ [z]) → W.grownBy w' v.ownBlock → (v.ownBlock = some g' ∨ g' = W.heap.size) → K (a.put o.dst (.slice (some ⟨g', 0, none⟩) (n + 1) cap)) w') :
    if Region.wanted o (yielded ops a.tmps) = true then Oper.wp Try.prog o a W K Q else E := by
  subst hn
  obtain ⟨i0, hi, hz0, hz1, hz2⟩ := info_parts infoInt
  refine step_append_lies W hgd s x 26 ho B 3 i0 (.int .i64 0) 1 8 Try.underlying26 hi hz0 hz1 hz2 rfl (by decide) v ys.length (ys.map (Value.int .i64)) hs hown ⟨g, 0, none⟩ 1 1 [.int .i64 z] hx rfl ?_ (by intro u hu; simp at hu; subst hu; rfl) (by omega) (by unfold maxLen; omega) (by omega) hB W.heap.size rfl ?_
  · intro j u hj
    obtain ⟨hlt, e⟩ := List.getElem?_eq_some_iff.1 hj
    have h0 : j = 0 := by simpa using hlt
    subst h0
    simp at e
    subst e
    rw [Addr.add_lit]; simpa using hz
  · intro g' cap w' ho2 hg hat _
    refine h g' cap w' ?_ hg hat
    unfold OwnI
    rw [List.length_append, List.map_append]
    exact ho2
theorem news_after {w w3 : World} {x : Int} {m : Nat} (h : Below ((w.drewN m).alloc (.cells #[.int .i64 x] 3)).heap.size ((w.drewN m).alloc (.cells #[.int .i64 x] 3)) w3) : w3.cell? ⟨w.heap.size, 0, none⟩ = some (.int .i64 x) :=
  (h.cell (p := ⟨w.heap.size, 0, none⟩) (show w.heap.size < ((w.drewN m).alloc _).heap.size by rw [World.size_alloc]; exact Nat.lt_succ_of_le (Joins.below_draws w.heap.size w m).size)).trans ((show ∀ W : World, (W.alloc (.cells #[.int .i64 x] 3)).cell? ⟨W.heap.size, 0, none⟩ = some (.int .i64 x) from fun W => by simp) (w.drewN m))
theorem below_after {w w3 : World} {m : Nat} {o : Obj} (h : Below ((w.drewN m).alloc o).heap.size ((w.drewN m).alloc o) w3) : Below w.heap.size w w3 :=
  Below.trans ((Joins.below_draws w.heap.size w m).alloc (Joins.below_draws w.heap.size w m).size _) (h.mono (Nat.le_trans (Joins.below_draws w.heap.size w m).size (by simp)))
theorem below_drew {w w3 : World} {m : Nat} (h : Below (w.drewN m).heap.size (w.drewN m) w3) : Below w.heap.size w w3 :=
  Below.trans (Joins.below_draws w.heap.size w m) (h.mono (Joins.below_draws w.heap.size w m).size)
/-- two values that own no block together -/
def SepV (v u : Value) : Prop := ∀ c, v.ownBlock = some c → u.ownBlock ≠ some c
theorem SepV.symm {v u : Value} (h : SepV v u) : SepV u v := fun c e e2 => h c e2 e
/-- the first of two rows has grown -/
theorem SepV.grow {w : World} {B : Nat} {v v' u : Value} {ys : List Int} {m : Nat} (h : SepV v u) (hu : OwnI w B u ys) (hm : w.heap.size ≤ m) (hat : v'.ownBlock = v.ownBlock ∨ v'.ownBlock = some m) : SepV v' u := by
  intro c e e2
  rcases hat with h1 | h1
  · exact h c (h1 ▸ e) e2
  · rw [h1] at e
    have := (hu.lt c e2).2
    simp only [Option.some.injEq] at e
    omega

/-- the least number that is greater than all of the first k -/
def unTo (l : List Int) : Nat → Nat
  | 0 => 0
  | k+1 => max (unTo l k) ((nth l k).toNat + 1)
/-- the first list that goes on a list so far, in which each longer beginning fits -/
def cnS (F : List Int → Bool) (lim : Nat) : Nat → List Int → Option (List Int)
  | 0, l => some l
  | d+1, l => find1 (fun x => if F (l ++ [(x : Int)]) then cnS F lim d (l ++ [(x : Int)]) else none) (min lim (unTo l l.length + 1))
theorem cnS_len {F : List Int → Bool} {lim : Nat} : ∀ {d : Nat} {l ys : List Int}, cnS F lim d l = some ys → ys.length = l.length + d
  | 0, l, ys, h => by simp only [cnS, Option.some.injEq] at h; rw [h]; rfl
  | d+1, l, ys, h => by
    simp only [cnS] at h
    obtain ⟨x, _, h1, _⟩ := find1_ex h
    split at h1
    · have := cnS_len h1
      rw [this, List.length_append]; simp; omega
    · cases h1
/-- are all numbers of a list less than a limit? -/
def LtL (lim : Nat) (l : List Int) : Prop := ∀ i, i < l.length → 0 ≤ nth l i ∧ nth l i < (lim : Int)
theorem LtL.snoc {lim : Nat} {l : List Int} (h : LtL lim l) {x : Nat} (hx : x < lim) : LtL lim (l ++ [(x : Int)]) := by
  intro i hi
  rw [List.length_append, List.length_singleton] at hi
  by_cases e : i = l.length
  · have : nth (l ++ [(x : Int)]) i = (x : Int) := by simp [nth, List.getD_eq_getElem?_getD, e]
    rw [this]; omega
  · have : nth (l ++ [(x : Int)]) i = nth l i := by simp [nth, List.getD_eq_getElem?_getD, List.getElem?_append_left (show i < l.length by omega)]
    rw [this]; exact h i (by omega)
theorem unTo_le {lim : Nat} {l : List Int} (h : LtL lim l) : ∀ k, k ≤ l.length → unTo l k ≤ lim
  | 0, _ => by simp [unTo]
  | k+1, hk => by
    have ih := unTo_le h k (by omega)
    have h1 := h k (by omega)
    simp only [unTo]
    omega

def memB (es : List Int) (i : Int) : Bool := (List.range es.length).any (fun k => nth es k == i)
theorem memB_iff {es : List Int} {i : Int} : memB es i = true ↔ ∃ k, k < es.length ∧ nth es k = i := by simp [memB]

/-- does the last element of a list stand to that with the index a, in both ways, as in the pattern? -/
def ptG (xs ys L : List Int) (a : Nat) : Bool :=
  (hasB (nth xs (nth L a).toNat) (nth L (L.length - 1)) == hasB (nth ys a) ((L.length - 1 : Nat) : Int)) && (hasB (nth xs (nth L (L.length - 1)).toNat) (nth L a) == hasB (nth ys (L.length - 1)) ((a : Nat) : Int))
def ptW (xs ys L : List Int) : Bool := (List.range L.length).all (ptG xs ys L)
/-- the first list that goes on a list so far and has the pattern -/
def fpS (xs ys : List Int) : Nat → List Int → Option (List Int)
  | 0, l => some l
  | d+1, l => find1 (fun i => if !memB l (i : Int) && ptW xs ys (l ++ [(i : Int)]) then fpS xs ys d (l ++ [(i : Int)]) else none) xs.length
theorem ptW_iff {xs ys L : List Int} : ptW xs ys L = true ↔ ∀ a, a < L.length → ptG xs ys L a = true := by simp [ptW]
theorem ptW_no {xs ys L : List Int} {a : Nat} (ha : a < L.length) (h : ptG xs ys L a = false) : ptW xs ys L = false := by
  rw [← Bool.not_eq_true, ptW_iff]
  intro h2
  rw [h2 a ha] at h; cases h
theorem fpS_len {xs ys : List Int} : ∀ {d : Nat} {l zs : List Int}, fpS xs ys d l = some zs → zs.length = l.length + d
  | 0, l, zs, h => by simp only [fpS, Option.some.injEq] at h; rw [h]; rfl
  | d+1, l, zs, h => by
    simp only [fpS] at h
    obtain ⟨x, _, h1, _⟩ := find1_ex h
    split at h1
    · have := fpS_len h1
      rw [this, List.length_append]; simp; omega
    · cases h1
theorem rel_at {n : Int} {xs : List Int} (hp : RelP n xs) {k : Nat} (hk : k < xs.length) : 0 ≤ nth xs k ∧ nth xs k ≤ 9223372036854775807 := ⟨hp.pos k hk, by have := hp.small k hk; omega⟩

theorem nth_snoc_end (l : List Int) (x : Int) : nth (l ++ [x]) l.length = x := by
  simp [nth, List.getD_eq_getElem?_getD]
theorem ptG_at {xs ys l : List Int} {i : Nat} {k : Nat} (h : k < l.length) : ptG xs ys (l ++ [(i : Int)]) k = ((hasB (nth xs (nth l k).toNat) (i : Int) == hasB (nth ys k) (l.length : Int)) && (hasB (nth xs i) (nth l k) == hasB (nth ys l.length) (k : Int))) := by
  simp only [ptG, List.length_append, List.length_singleton, Nat.add_sub_cancel, nth_snoc_end, nth_snoc_lt h, Int.toNat_natCast]
theorem ptG_end {xs ys l : List Int} {i : Nat} : ptG xs ys (l ++ [(i : Int)]) l.length = (hasB (nth xs i) (i : Int) == hasB (nth ys l.length) (l.length : Int)) := by
  simp only [ptG, List.length_append, List.length_singleton, Nat.add_sub_cancel, nth_snoc_end, Int.toNat_natCast, Bool.and_self]
theorem ptW_snoc {xs ys l : List Int} {i : Nat} : ptW xs ys (l ++ [(i : Int)]) = true ↔ (∀ k, k < l.length → ptG xs ys (l ++ [(i : Int)]) k = true) ∧ (hasB (nth xs i) (i : Int) == hasB (nth ys l.length) (l.length : Int)) = true := by
  rw [ptW_iff, ← ptG_end]
  constructor
  · intro h
    exact ⟨fun k hk => h k (by simp; omega), h _ (by simp)⟩
  · rintro ⟨h1, h2⟩ a ha
    rw [List.length_append, List.length_singleton] at ha
    by_cases e : a = l.length
    · rw [e]; exact h2
    · exact h1 a (by omega)

theorem Var2.drawn {w w' : World} {p b : Nat} {u v : Value} (h : Var2 w b u v) (hd : Drawn w w' p) (hne : b ≠ p) : Var2 w' b u v := h.kept hd (by simpa using hne)
theorem OwnI.drawn {w w' : World} {p B : Nat} {v : Value} {xs : List Int} (h : OwnI w B v xs) (hd : Drawn w w' p) (hp : p < B) : OwnI w' B v xs :=
  h.kept hd (by
    cases e : v.ownBlock with
    | none => exact .inl rfl
    | some c => exact .inr (by have := (h.lt c e).1; simp; omega))
theorem Drawn.grown {w w1 w2 : World} {p : Nat} {v : Value} (h : Drawn w w1 p) (hg : w1.grownBy w2 v.ownBlock) (hB : ∀ c, v.ownBlock = some c → w.heap.size ≤ c) : Drawn w w2 p :=
  ⟨hg.os.trans h.os, hg.tape.trans h.tape, hg.output.trans h.output, Nat.le_trans h.size hg.size, fun k hk hn => (hg.block k (by have := h.size; omega) (fun e => by have := hB k e.symm; omega)).trans (h.block k hk hn)⟩
theorem Drawn.set {w w1 : World} {p : Nat} (h : Drawn w w1 p) (a : Addr) (u : Value) (ha : w.heap.size ≤ a.block) : Drawn w (w1.setCell a u) p :=
  ⟨h.os, h.tape, h.output, by simpa using h.size, fun k hk hn => (Below.heap_setCell w1 a u k (by omega)).trans (h.block k hk hn)⟩
/-- a length that is kept in a block's second cell -/
def lenAt (w : World) (b : Nat) : Nat := match w.cell? ⟨b, 1, none⟩ with | some (.slice _ k _) => k | _ => 0
theorem lenAt_of {w : World} {b k c : Nat} {u : Value} {a : Option Addr} (h : Var2 w b u (.slice a k c)) : lenAt w b = k := by simp [lenAt, h.1.2.2]
set_option maxRecDepth 100000 in
theorem relation_any (p L m : Nat) (w : World) (h : Cur w p L) (hL : L ≤ 800000000) (hm : m ≤ 10) :
    Calls Try.prog 161 #[.pointer (some ⟨p, 0, none⟩), .int .i64 (m : Int)] w fun e w' => ∃ a cap xs, e = .returned (.agg #[.int .i64 (xs.length : Int), .slice a xs.length cap]) ∧ OwnI w' w.heap.size (.slice a xs.length cap) xs ∧ xs.length ≤ m ∧ (∀ k, k < xs.length → 0 ≤ nth xs k ∧ nth xs k < 1024) ∧ Cur w' p (L + 300) ∧ Drawn w w' p := by
  have hpw := h.lt
  have ha : Below w.heap.size w (w.alloc (.cells #[.int .i64 0, .slice none 0 0] 28)) := (by repeat (first | exact Below.refl _ _ | assumption | refine Below.alloc ?_ (by first | exact Nat.le_refl _ | (simp only [World.size_alloc, World.size_setCell, World.size_drew]; omega) | omega) _ | refine Below.setCell ?_ (by first | exact Nat.le_refl _ | (simp only [World.size_alloc, World.size_setCell, World.size_drew]; omega) | omega) _ | refine Below.drew ?_))
  have H := Lib.hid (h.below ha)
  have HR := Lib.hid (Var2.new w (.int .i64 0) (.slice none 0 0) 28)
  clear h
  go_enter Try.func161, Try.ntmps161
  go_wp2_with fail
  refine (pick_any p L ((m : Int) + 1) _ H.out (by omega) (by omega)).mono ?_
  rintro e w1 ⟨r, rfl, hr0, hr1, hc1, hd1⟩
  obtain ⟨n, rfl⟩ := Int.eq_ofNat_of_zero_le hr0
  have hn : n ≤ m := by omega
  have hs1 : w.heap.size + 1 ≤ w1.heap.size := by have := hd1.size; simpa using this
  have HC1 := Lib.hid hc1
  have HD1 := Lib.hid hd1
  clear hc1 hd1 hr0 hr1
  go_wp2_with fail
  have HB1 := Lib.hid (Var2.new w1 (.int .i64 (n : Int)) (.slice none 0 0) 28)
  have HR1 := Lib.hid ((HR.out.drawn HD1.out (by omega)).alloc (.cells #[.int .i64 (n : Int), .slice none 0 0] 28))
  have HC2 := Lib.hid (HC1.out.below ((Below.refl w1.heap.size w1).alloc (Nat.le_refl _) (.cells #[.int .i64 (n : Int), .slice none 0 0] 28)))
  go_loopw [6, 7] (fun _ _ wr => ∃ (a : Option Addr) (cap : Nat) (xs : List Int), xs.length ≤ n ∧ Var2 wr w1.heap.size (.int .i64 (n : Int)) (.slice a xs.length cap) ∧ OwnI wr (w1.heap.size + 1) (.slice a xs.length cap) xs ∧ (∀ k, k < xs.length → 0 ≤ nth xs k ∧ nth xs k < 1024) ∧ Cur wr p (L + 2 + 20 * xs.length) ∧ Var2 wr w.heap.size (.int .i64 0) (.slice none 0 0) ∧ Drawn w wr p) (fun _ _ wr => n - lenAt wr w1.heap.size)
  case atStart => exact ⟨none, 0, [], by simp, HB1.out, OwnI.nil _ _, fun k hk => by simp at hk, HC2.out.mono (by simp), HR1.out, HD1.out.of_alloc.alloc _⟩
  case round =>
    obtain ⟨a, cap, xs, hk, hV, ho, hx, hc, hR, hd⟩ := hrel
    have hds := hd.size
    have ⟨⟨zV, cV, dV⟩, fV, gV⟩ := hV
    by_cases hlt : xs.length < n
    · have k1 : (xs.length : Int) < (n : Int) := by omega
      have HV := Lib.hid hV
      have HO := Lib.hid ho
      have HX := Lib.hid hx
      have HC := Lib.hid hc
      have HR := Lib.hid hR
      have HD := Lib.hid hd
      obtain ⟨W1, hW1⟩ : ∃ x : World, x = wr := ⟨_, rfl⟩
      subst hW1
      clear hV ho hx hc hR hd
      go_wp2_with fail
      go_loopw [6, 7] (fun s j wr => ∃ (k S : Nat), k ≤ n ∧ j = .int .i64 k ∧ s = .int .i64 (S : Int) ∧ S < 2 ^ k ∧ Cur wr p (L + 2 + 20 * xs.length + 2 * k) ∧ Drawn W1 wr p) (fun _ j _ => n - (intOf j).toNat)
      case atStart => exact ⟨0, 0, by omega, rfl, rfl, by simp, HC.out, Drawn.refl _ _⟩
      case round =>
        obtain ⟨k, S, hk2, rfl, rfl, hS, hc2, hd2⟩ := hrel
        have hds2 := hd2.size
        have hV2 := HV.out.drawn hd2 (by omega)
        have ⟨⟨zV2, cV2, dV2⟩, fV2, gV2⟩ := hV2
        by_cases hlt2 : k < n
        · have k2 : (k : Int) < (n : Int) := by omega
          have HC2 := Lib.hid hc2
          have HD2 := Lib.hid hd2
          clear hc2 hd2 hV2
          go_wp2_with fail
          refine (one_any p (L + 2 + 20 * xs.length + 2 * k) 4 _ HC2.out (by omega) (by omega)).mono ?_
          rintro e w3 ⟨he, hc3, hd3⟩
          have HC3 := Lib.hid hc3
          have HD3 := Lib.hid (HD2.out.trans hd3)
          have hsb : S < 4611686018427387904 := by
            have : 2 ^ k ≤ 2 ^ 10 := Nat.pow_le_pow_right (by omega) (by omega)
            omega
          have hor := Lib.hid (or_bit (b := S) (k := k) hsb (by omega))
          have h2k : (2 : Nat) ^ k < 2 ^ (k + 1) := two_lt (by omega)
          have hS1 : S ||| 2 ^ k < 2 ^ (k + 1) := or_lt (by omega) h2k
          have hS0 : S < 2 ^ (k + 1) := by omega
          clear hc3 hd3
          rcases he with rfl | rfl
          · go_wp2_with fail
            go_roundw
            case rel => exact ⟨k + 1, S ||| 2 ^ k, by omega, by go_num, val_int hor.out, hS1, HC3.out.mono (by omega), HD3.out⟩
            case measure => simp [intOf]; omega
          · go_wp2_with fail
            go_roundw
            case rel => exact ⟨k + 1, S, by omega, by go_num, rfl, hS0, HC3.out.mono (by omega), HD3.out⟩
            case measure => simp [intOf]; omega
        · obtain rfl : k = n := by omega
          have HO2 := Lib.hid (HO.out.drawn hd2 (by omega))
          have HC2 := Lib.hid hc2
          have HD2 := Lib.hid hd2
          have HV2 := Lib.hid hV2
          clear hc2 hd2 hV2
          have hlo := HO2.out.lt
          have HLO := Lib.hid hlo
          have hWs : w1.heap.size + 1 ≤ wr.heap.size := by omega
          clear hlo
          go_wp2_with (at_builtin; refine push_at (v := .slice a xs.length cap) (z := (S : Int)) rfl _ _ rfl rfl HO2.out rfl (by omega) hWs ?_; intro v7 w7 o7 hg7 hat7; revert hat7)
          intro hat7
          have hV7 := HV2.out.kept hg7 (ne_own (fun c e => by have := (HLO.out c e).1; omega))
          have ⟨⟨zV7, cV7, dV7⟩, fV7, gV7⟩ := hV7
          obtain ⟨av7, cv7, ev7⟩ := o7.form
          subst ev7
          rw [show (xs ++ [(S : Int)]).length = xs.length + 1 by simp] at o7 ⊢
          have hc7 := HC2.out.kept hg7 (fun g e => by have := (HLO.out g e).1; omega)
          have hR7 := ((HR.out.drawn HD2.out (by omega)).kept hg7 (ne_own (fun c e => by have := (HLO.out c e).1; omega)))
          have hd7 := (HD.out.trans HD2.out).grown hg7 (fun c e => by have := (HLO.out c e).1; omega)
          have H7 := Lib.hid (And.intro (hV7.set1 (.slice av7 (xs.length + 1) cv7)) (And.intro (o7.setBelow (p := ⟨w1.heap.size, 1, none⟩) (show w1.heap.size < w1.heap.size + 1 by omega) (.slice av7 (xs.length + 1) cv7)) (And.intro (hc7.set ⟨w1.heap.size, 1, none⟩ (.slice av7 (xs.length + 1) cv7) (show p < w1.heap.size by omega)) (And.intro (hR7.other (p := ⟨w1.heap.size, 1, none⟩) (.slice av7 (xs.length + 1) cv7) (show w.heap.size ≠ w1.heap.size by omega)) (hd7.set ⟨w1.heap.size, 1, none⟩ (.slice av7 (xs.length + 1) cv7) (show w.heap.size ≤ w1.heap.size by omega))))))
          clear o7 hg7 hat7 hV7 hc7 hR7 hd7
          go_wp2_with fail
          have HL9 : Hid ((xs ++ [(S : Int)]).length = xs.length + 1) := by simp [Hid]
          have HX9 : Hid (∀ k, k < (xs ++ [(S : Int)]).length → 0 ≤ nth (xs ++ [(S : Int)]) k ∧ nth (xs ++ [(S : Int)]) k < 1024) := fun j hj => by
            by_cases e : j < xs.length
            · rw [nth_snoc_lt e]; exact HX.out j e
            · obtain rfl : j = xs.length := by simp at hj; omega
              rw [nth_snoc_end]
              have : 2 ^ k ≤ 2 ^ 10 := Nat.pow_le_pow_right (by omega) (by omega)
              omega
          go_roundw
          case rel => exact ⟨av7, cv7, xs ++ [(S : Int)], by rw [HL9.out]; omega, by rw [HL9.out]; exact H7.out.1, by rw [HL9.out]; exact H7.out.2.1, HX9.out, H7.out.2.2.1.mono (by rw [HL9.out]; omega), H7.out.2.2.2.1, H7.out.2.2.2.2⟩
          case measure => rw [lenAt_of H7.out.1, lenAt_of HV.out]; omega
    · obtain rfl : xs.length = n := by omega
      have ⟨⟨zR, cR, dR⟩, fR, gR⟩ := hR
      have HO := Lib.hid ho
      have HR := Lib.hid hR
      have HX := Lib.hid hx
      have HC := Lib.hid hc
      have HD := Lib.hid hd
      clear hV ho hx hc hR hd
      go_wp2_with fail
      have R3 := HR.out.set (.int .i64 (xs.length : Int)) (.slice a xs.length cap)
      refine bodyPost_ret (v := .agg #[.int .i64 (xs.length : Int), .slice a xs.length cap]) (by have ⟨⟨_, q1, q2⟩, _, _⟩ := R3; simp [results, Try.results161, go_sem, q1, q2]) rfl ?_
      refine ⟨a, cap, xs, rfl, ((HO.out.setBelow (show w.heap.size < w1.heap.size + 1 by omega) _).setBelow (show w.heap.size < w1.heap.size + 1 by omega) _).mono (by omega), hn, HX.out, ?_, ?_⟩
      · exact ((HC.out.set _ _ (show p < w.heap.size by omega)).set _ _ (show p < w.heap.size by omega)).mono (by omega)
      · exact (HD.out.set _ _ (Nat.le_refl _)).set _ _ (Nat.le_refl _)

theorem l1In_any (n lo hi : Int) (w : World) :
    Calls Try.prog 78 #[.int .i64 n, .int .i64 lo, .int .i64 hi] w fun e w' => e = .returned (.bool (inB n lo hi)) ∧ w = w' := by
  go_enter Try.func78, Try.ntmps78
  go_wp2
  all_goals (go_ret; exact ⟨ret_bool (by simp [inB]; try omega), rfl⟩)
theorem l1In_is {n lo hi : Int} {b : Bool} (h : inB n lo hi = b) (w : World) (m : Nat) :
    Calls Try.prog 78 #[.int .i64 n, .int .i64 lo, .int .i64 hi] (w.drewN m) fun e w' => e = .returned (.bool b) ∧ ∃ k, w' = w.drewN k :=
  Calls.quiet_of_same ((l1In_any n lo hi (w.drewN m)).mono (fun e w' hh => ⟨by rw [← h]; exact hh.1, hh.2.symm⟩))

theorem l1All_any (a : Option Addr) (xs : List Int) (cap : Nat) (lo hi : Int) (w : World) (hx : Rd w a xs) :
    Calls Try.prog 91 #[.slice a xs.length cap, .int .i64 lo, .int .i64 hi] w fun e w' => e = .returned (.bool (allB xs lo hi)) ∧ w = w' := by
  have hlen := hx.len
  go_enter Try.func91, Try.ntmps91
  go_wp2_with fail
  go_loop [11] (fun i => ∃ k : Nat, k ≤ xs.length ∧ i = .int .i64 k ∧ allB (xs.take k) lo hi = true) (fun i => xs.length - (intOf i).toNat)
  case atStart => exact ⟨0, Nat.zero_le _, rfl, rfl⟩
  case round =>
    obtain ⟨k, hk, rfl, hall⟩ := hrel
    by_cases hlt : k < xs.length
    · obtain ⟨b, off, rfl, hbl, hc⟩ := hx.cell k hlt
      cases hin : inB (nth xs k) lo hi
      · have hf := Lib.hid (allB_false hlt hin)
        go_wp2_with (go_at_call 78; refine (l1In_any _ _ _ _).mono ?_; rintro e w' ⟨rfl, rfl⟩)
        go_ret
        exact ⟨ret_bool hf.out.symm, rfl⟩
      · go_wp2_with (go_at_call 78; refine (l1In_any _ _ _ _).mono ?_; rintro e w' ⟨rfl, rfl⟩)
        go_round
        case rel => exact ⟨k + 1, by omega, by go_num, by rw [allB_take _ _ _ _ hlt, hall, hin]; rfl⟩
        case measure => simp [intOf]; omega
    · go_wp2_with fail
      go_ret
      exact ⟨ret_bool (by rw [← hall, List.take_of_length_le (by omega)]), rfl⟩
theorem l1All_is {a : Option Addr} {xs : List Int} {cap : Nat} {lo hi : Int} {b : Bool} {w : World} (hx : Rd w a xs) (h : allB xs lo hi = b) (m : Nat) :
    Calls Try.prog 91 #[.slice a xs.length cap, .int .i64 lo, .int .i64 hi] (w.drewN m) fun e w' => e = .returned (.bool b) ∧ ∃ k, w' = w.drewN k :=
  Calls.quiet_of_same ((l1All_any a xs cap lo hi (w.drewN m) (hx.below (Joins.below_draws _ _ _))).mono (fun e w' hh => ⟨by rw [← h]; exact hh.1, hh.2.symm⟩))

theorem orRelation_any (n : Int) (a : Option Addr) (xs : List Int) (cap : Nat) (w : World) (hx : Rd w a xs) :
    Calls Try.prog 155 #[.agg #[.int .i64 n, .slice a xs.length cap]] w fun e w' => e = .returned (.bool (relB n xs)) ∧ Below w.heap.size w w' := by
  have hx1 := hx.alloc (.cells #[.int .i64 n, .slice a xs.length cap] 28)
  cases h1 : inB n 0 10
  · have HR : Hid (relB n xs = false) := by simp [Hid, relB, h1]
    go_enter Try.func155, Try.ntmps155
    go_wp2_with fail
    go_quiet ((go_at_call 78; exact l1In_is h1 _ _))
    go_wp2_with fail
    go_ret
    exact ⟨ret_bool HR.out.symm, (Below.refl _ _).alloc (Nat.le_refl _) _ |>.trans (Joins.below_draws _ _ _)⟩
  · have hn := inB_iff.1 h1
    cases h2 : ((xs.length : Int) == n)
    · have HR : Hid (relB n xs = false) := by
        have : ¬ (xs.length : Int) = n := by simpa using h2
        simp [Hid, relB, h1, this]
      go_enter Try.func155, Try.ntmps155
      go_wp2_with fail
      go_quiet ((go_at_call 78; exact l1In_is h1 _ _))
      go_wp2_with fail
      go_ret
      exact ⟨ret_bool HR.out.symm, (Below.refl _ _).alloc (Nat.le_refl _) _ |>.trans (Joins.below_draws _ _ _)⟩
    · cases h3 : allB xs 0 (wrap64 (wrap64 (2 ^ n.toNat) - 1))
      all_goals
        have HR : Hid (relB n xs = allB xs 0 (wrap64 (wrap64 (2 ^ n.toNat) - 1))) := by
          have : (xs.length : Int) = n := by simpa using h2
          simp only [Hid, relB, h1, this, full_eq hn.1 hn.2]
          simp
        have H3 := Lib.hid h3
        clear h3
        go_enter Try.func155, Try.ntmps155
        go_wp2_with fail
        go_quiet ((first | (go_at_call 78; exact l1In_is h1 _ _) | (go_at_call 91; exact l1All_is hx1 H3.out _)))
        go_wp2_with fail
        go_ret
        exact ⟨ret_bool (by rw [HR.out, H3.out]), (Below.refl _ _).alloc (Nat.le_refl _) _ |>.trans (Joins.below_draws _ _ _)⟩

theorem wpList_append_none {P : Program} {w : World} {ops : Array Oper} {rest : List Oper} {o : Oper} {a : Act} {Q : Exit → Act → World → Prop} (hgd : o.guard = none) (s x : Operand) (t : TypeId)
    (ho : o.op = .call { callee := .builtin .append, args := #[s, x], argTypes := #[t, t] })
    (base : Nat) (e : TypeId) (i : TypeInfo) (size : Nat) (ht : P.underlying t = some (.slice e)) (hi : P.info? e = some i)
    (v : Value) (n c : Nat) (xs : List Value) (hs : a.eval s = v) (hown : w.ownsRow base e size v n xs) (hx : a.eval x = .slice none 0 c)
    (h : wpList P ops Q rest (a.put o.dst v) w) : wpList P ops Q (o :: rest) a w := by
  refine wpList_plain hgd fun K hK => ?_
  have hrun : (Builtin.append_ #[t, t] o.type #[v, .slice none 0 c]).run P w = .ok v w := by
    rcases hown.2 with ⟨rfl, rfl⟩ | ⟨g, cap, cur, rfl, _, _, hnc, _⟩
    · simp [Builtin.append_, run_underlying ht, sizeOf, typeInfo, hi, Builtin.lenOf, Builtin.firstCells]
    · simp [Builtin.append_, run_underlying ht, sizeOf, typeInfo, hi, Builtin.lenOf, Builtin.firstCells, hnc, storeCells]
  unfold Oper.wp
  simp [execOp, ho, resolve, invoke, builtin, hs, hx, hrun, Result.andThen]
  exact hK _ _ h
theorem rd_news {w : World} {ad : Addr} {xs : List Int} (hx : Rd w (some ad) xs) : ∀ j u, (xs.map (Value.int .i64))[j]? = some u → w.cell? (ad.add j) = some u := by
  intro j u hj
  rw [List.getElem?_map, Option.map_eq_some_iff] at hj
  obtain ⟨x, hx1, rfl⟩ := hj
  obtain ⟨hlt, e⟩ := List.getElem?_eq_some_iff.1 hx1
  obtain ⟨b, off, e1, _, hc⟩ := hx.cell j hlt
  simp only [Option.some.injEq] at e1
  subst e1
  rw [Addr.add_lit, hc, nth_get xs j hlt, e]
theorem ints_one (xs : List Int) : ∀ u ∈ xs.map (Value.int .i64), u.oneCell' = true := by
  intro u hu
  obtain ⟨x, _, rfl⟩ := List.mem_map.1 hu
  rfl

theorem l1Own_any (a : Option Addr) (xs : List Int) (cap : Nat) (w : World) (hx : Rd w a xs) (hn : xs.length ≤ 1048576) :
    Calls Try.prog 130 #[.slice a xs.length cap] w fun e w' => ∃ a' cap', e = .returned (.slice a' xs.length cap') ∧ OwnI w' w.heap.size (.slice a' xs.length cap') xs ∧ Below w.heap.size w w' := by
  obtain ⟨i0, hi, hz0, hz1, hz2⟩ := info_parts infoInt
  have hown : (w.alloc (.cells #[] 3)).ownsRow w.heap.size 3 1 (.slice (some ⟨w.heap.size, 0, none⟩) 0 0) 0 [] := World.ownsRow_lit w #[] 0 (Nat.le_refl _) (by simp [maxLen]) (by simp)
  cases a with
  | none =>
    have h0 : xs = [] := by
      rcases xs with _ | ⟨x, t⟩
      · rfl
      · obtain ⟨b, off, e, _⟩ := hx.cell 0 (by simp)
        cases e
    subst h0
    go_enter Try.func130, Try.ntmps130
    go_wp2_with (at_builtin; refine wpList_append_none rfl _ _ 26 rfl w.heap.size 3 i0 1 Try.underlying26 hi _ 0 _ [] rfl hown rfl ?_)
    go_wp2_with fail
    go_ret
    exact ⟨_, _, rfl, hown, (by repeat (first | exact Below.refl _ _ | assumption | refine Below.alloc ?_ (by first | exact Nat.le_refl _ | (simp only [World.size_alloc, World.size_setCell, World.size_drew]; omega) | omega) _ | refine Below.setCell ?_ (by first | exact Nat.le_refl _ | (simp only [World.size_alloc, World.size_setCell, World.size_drew]; omega) | omega) _ | refine Below.drew ?_))⟩
  | some ad =>
    have hx1 := hx.alloc (.cells #[] 3)
    go_enter Try.func130, Try.ntmps130
    go_wp2_with (at_builtin; refine wpList_append_own _ rfl _ _ 26 rfl w.heap.size 3 i0 (.int .i64 0) 1 8 Try.underlying26 hi hz0 hz1 hz2 rfl (by decide) _ 0 [] rfl hown ad xs.length cap (xs.map (Value.int .i64)) rfl (by simp) ?c1 ?c2 ?c3 ?c4 ?c5 ?_)
    case c1 => exact rd_news hx1
    case c2 => exact ints_one xs
    case c3 => unfold maxLen; omega
    case c4 => omega
    case c5 => simp
    · intro v' w1 hown' hgrow _
      try simp only [Nat.zero_add, List.nil_append] at hown'
      have hb : Below w.heap.size w w1 := ((Below.refl _ _).alloc (Nat.le_refl _) _).grown hgrow (by simp) (fun b e => by simp [Value.ownBlock] at e; omega)
      obtain ⟨a', cap', rfl⟩ := OwnI.form (xs := xs) hown'
      have HO := Lib.hid hown'
      clear hown' hgrow hown
      go_wp2_with fail
      go_ret
      exact ⟨a', cap', rfl, HO.out, hb⟩

theorem orHas_any (s i : Int) (w : World) (h0 : 0 ≤ s) (h1 : s ≤ 9223372036854775807) (hi : 0 ≤ i) :
    Calls Try.prog 118 #[.int .i64 s, .int .i64 i] w fun e w' => e = .returned (.bool (hasB s i)) ∧ w = w' := by
  have H := Lib.hid (has_mod h0 h1 hi)
  go_enter Try.func118, Try.ntmps118
  go_wp2
  go_ret
  exact ⟨ret_bool H.out, rfl⟩

theorem sCloseRelation_any (n : Int) (a : Option Addr) (xs : List Int) (cap : Nat) (w : World) (hn : -9223372036854775808 ≤ n ∧ n ≤ 9223372036854775807) (hx : Rd w a xs) :
    Calls Try.prog 175 #[.agg #[.int .i64 n, .slice a xs.length cap]] w (GotO w (cloN n xs) (cloL n xs) (relB n xs)) := by
  have hx1 := (hx.alloc (.cells #[.int .i64 n, .slice a xs.length cap] 28)).alloc (.cells #[.int .i64 0, .slice none 0 0] 28)
  cases hr : relB n xs
  · have H1 : Hid (cloN n xs = 0) := by simp [Hid, cloN, hr]
    have H2 : Hid (cloL n xs = []) := by simp [Hid, cloL, hr]
    go_enter Try.func175, Try.ntmps175
    go_wp2_with fail
    refine (orRelation_any _ _ _ _ _ hx1).mono ?_
    rintro e w1 ⟨rfl, hb1⟩
    have hz := hb1.size
    simp only [World.size_alloc] at hz
    obtain ⟨hc, hf⟩ := bcell hb1
    have bw1 : Below w.heap.size w w1 := Below.trans (by repeat (first | exact Below.refl _ _ | assumption | refine Below.alloc ?_ (by first | exact Nat.le_refl _ | (simp only [World.size_alloc, World.size_setCell, World.size_drew]; omega) | omega) _ | refine Below.setCell ?_ (by first | exact Nat.le_refl _ | (simp only [World.size_alloc, World.size_setCell, World.size_drew]; omega) | omega) _ | refine Below.drew ?_)) (hb1.mono (by first | (simp only [World.size_alloc, World.size_setCell, World.size_drew]; omega) | omega))
    go_wp2_with fail
    refine bodyPost_ret (v := .tuple #[.agg #[.int .i64 0, .slice none 0 0], .bool false]) (by simp [results, Try.results175, go_sem, hc]) rfl ?_
    refine ⟨none, 0, ?_, ?_, ?_⟩
    · rw [H1.out, H2.out]; rfl
    · rw [H2.out]; exact OwnI.nil _ _
    · exact (bw1.setCell (by simp) _).setCell (by simp) _
  · have hp := relB_p hr
    have hsm := hp.sm
    have hl10 : xs.length ≤ 10 := by have := hp.len; have := hp.n1; omega
    have H1 : Hid (cloN n xs = n) := by simp [Hid, cloN, hr]
    have H2 : Hid (cloL n xs = clAll xs xs.length) := by simp [Hid, cloL, hr]
    go_enter Try.func175, Try.ntmps175
    go_wp2_with fail
    refine (orRelation_any _ _ _ _ _ hx1).mono ?_
    rintro e w1 ⟨rfl, hb1⟩
    have A1 : Box2 w1 w.heap.size (.int .i64 n) (.slice a xs.length cap) := ((Box2.new w _ _ _).below ((Below.refl _ _).alloc (Nat.le_refl _) _)).below hb1
    have R1 : Var2 w1 (w.heap.size + 1) (.int .i64 0) (.slice none 0 0) := by
      have := (Var2.new (w.alloc (.cells #[.int .i64 n, .slice a xs.length cap] 28)) (.int .i64 0) (.slice none 0 0) 28).below hb1
      simpa using this
    have ⟨zA, cA, dA⟩ := A1
    have bw1 : Below w.heap.size w w1 := Below.trans (by repeat (first | exact Below.refl _ _ | assumption | refine Below.alloc ?_ (by first | exact Nat.le_refl _ | (simp only [World.size_alloc, World.size_setCell, World.size_drew]; omega) | omega) _ | refine Below.setCell ?_ (by first | exact Nat.le_refl _ | (simp only [World.size_alloc, World.size_setCell, World.size_drew]; omega) | omega) _ | refine Below.drew ?_)) (hb1.mono (by first | (simp only [World.size_alloc, World.size_setCell, World.size_drew]; omega) | omega))
    have hz1 : w.heap.size + 2 ≤ w1.heap.size := by have := R1.1.1; omega
    clear hb1
    go_wp2_with fail
    go_cut [4] (fun s4 wx => ∃ (b4 : Nat) (a2 : Option Addr) (cap2 : Nat), s4 = .pointer (some ⟨b4, 0, none⟩) ∧ Box2 wx b4 (.int .i64 n) (.slice a2 xs.length cap2) ∧ OwnI wx (w.heap.size + 2) (.slice a2 xs.length cap2) xs ∧ (∀ b, (Value.slice a2 xs.length cap2).ownBlock = some b → b ≠ b4) ∧ w.heap.size + 2 ≤ b4 ∧ Below w.heap.size w wx ∧ Var2 wx (w.heap.size + 1) (.int .i64 0) (.slice none 0 0))
    case first =>
      go_region_held3 (fun w' => w'.cell? ⟨w.heap.size, 0, none⟩ = some (.int .i64 n) ∧ w'.cell? ⟨w.heap.size, 1, none⟩ = some (.slice a xs.length cap))
        (first | exact ⟨A3.2.1, A3.2.2⟩ | exact ⟨A2.2.1, A2.2.2⟩ | exact ⟨(A1.below ((Below.refl _ _).alloc (Nat.le_refl _) _).drew).2.1, (A1.below ((Below.refl _ _).alloc (Nat.le_refl _) _).drew).2.2⟩ | exact ⟨(A2.below ((Below.refl _ _).alloc (Nat.le_refl _) _)).2.1, (A2.below ((Below.refl _ _).alloc (Nat.le_refl _) _)).2.2⟩ | go_keep)
        (first | (go_at_call 130; refine (l1Own_any _ _ _ (w1.alloc (.cells #[.int .i64 0, .slice none 0 0] 28)).drew (hx.below (bw1.alloc bw1.size _).drew) (by omega)).mono ?_; rintro e w2 ⟨a2, cap2, rfl, ho2, hb2⟩; have ht2 : Below w1.heap.size w1 w2 := Below.trans ((Below.refl _ _).alloc (Nat.le_refl _) (.cells #[.int .i64 0, .slice none 0 0] 28)).drew (hb2.mono (by simp)); have A2 := A1.below ht2; have A3 := (A2.set (p := ⟨w1.heap.size, 0, none⟩) (.int .i64 n) (show w.heap.size ≠ w1.heap.size by omega)).set (p := ⟨w1.heap.size, 1, none⟩) (.slice a2 xs.length cap2) (show w.heap.size ≠ w1.heap.size by omega); have V2 : Var2 w2 w1.heap.size (.int .i64 0) (.slice none 0 0) := Var2.below (w := (w1.alloc (.cells #[.int .i64 0, .slice none 0 0] 28)).drew) (Var2.new w1 _ _ _) hb2; have ⟨⟨zV2, cV2, dV2⟩, fV2, gV2⟩ := V2) | (go_at_call 130; refine (l1Own_any _ _ _ w1.drew (hx.below bw1.drew) (by omega)).mono ?_; rintro e w2 ⟨a2, cap2, rfl, ho2, hb2⟩; have ht2 : Below w1.heap.size w1 w2 := Below.trans (Below.refl _ w1).drew (hb2.mono (show w1.heap.size ≤ w1.heap.size by omega)); have A2 := A1.below ht2; have z12 : w1.heap.size ≤ w2.heap.size := ht2.size))
      all_goals go_wp2_with fail
      · go_meet
        have bw2 := bw1.trans (ht2.mono bw1.size)
        have ho3 : OwnI w2 (w.heap.size + 2) (.slice a2 xs.length cap2) xs := ho2.mono (show w.heap.size + 2 ≤ w1.heap.size from hz1)
        exact ⟨w2.heap.size, a2, cap2, rfl, Box2.new _ _ _ _, ho3.alloc _, fun b e => by have := (ho2.lt b e).2; omega, by omega, bw2.alloc bw2.size _, (R1.below ht2).alloc _⟩
      · go_meet
        have bw2 := bw1.trans (ht2.mono bw1.size)
        have R3 := ((R1.below ht2).other (p := ⟨w1.heap.size, 0, none⟩) (.int .i64 n) (show w.heap.size + 1 ≠ w1.heap.size by omega)).other (p := ⟨w1.heap.size, 1, none⟩) (.slice a2 xs.length cap2) (show w.heap.size + 1 ≠ w1.heap.size by omega)
        have ho3 : OwnI _ (w.heap.size + 2) (.slice a2 xs.length cap2) xs := ((ho2.setBelow (p := ⟨w1.heap.size, 0, none⟩) (by simp) (.int .i64 n)).setBelow (p := ⟨w1.heap.size, 1, none⟩) (by simp) (.slice a2 xs.length cap2)).mono (B' := w.heap.size + 2) (by simp; omega)
        exact ⟨w1.heap.size, a2, cap2, rfl, (V2.set (.int .i64 n) (.slice a2 xs.length cap2)).1, ho3, fun b e => by have := (ho2.lt b e).1; simp at this; omega, hz1, (bw2.setCell (p := ⟨w1.heap.size, 0, none⟩) bw1.size (.int .i64 n)).setCell (p := ⟨w1.heap.size, 1, none⟩) bw1.size (.slice a2 xs.length cap2), R3⟩
    case rest =>
    obtain ⟨b4, a2, cap2, rfl, V3, ho3, U2, hb4, bw3, R3⟩ := hcut
    have ⟨zV3, cV3, dV3⟩ := V3
    clear A1 R1 cA dA
    go_wp2_with fail
    go_loopw [20] (fun i wr => ∃ k : Nat, k ≤ xs.length ∧ i = .int .i64 k ∧ OwnI wr (w.heap.size + 2) (.slice a2 xs.length cap2) (clAll xs k) ∧ Below w.heap.size w wr ∧ Box2 wr b4 (.int .i64 n) (.slice a2 xs.length cap2) ∧ Var2 wr (w.heap.size + 1) (.int .i64 0) (.slice none 0 0)) (fun i _ => xs.length - (intOf i).toNat)
    case atStart => exact ⟨0, Nat.zero_le _, rfl, ho3, bw3, V3, R3⟩
    case round =>
      obtain ⟨k, hk, rfl, hown, hb, hA, hR⟩ := hrel
      have ⟨zA, cA, dA⟩ := hA
      by_cases hlt : k < xs.length
      · go_wp2_with fail
        obtain ⟨wo, hwo⟩ : ∃ wo : World, wo = wr := ⟨_, rfl⟩
        go_loopw [26] (fun i wi => ∃ j : Nat, j ≤ xs.length ∧ i = .int .i64 j ∧ OwnI wi (w.heap.size + 2) (.slice a2 xs.length cap2) (clRow (clAll xs k) k j) ∧ Below w.heap.size w wi ∧ Box2 wi b4 (.int .i64 n) (.slice a2 xs.length cap2) ∧ Var2 wi (w.heap.size + 1) (.int .i64 0) (.slice none 0 0)) (fun i _ => xs.length - (intOf i).toNat)
        case atStart => exact ⟨0, Nat.zero_le _, rfl, hown, hb, hA, hR⟩
        case round =>
          obtain ⟨j, hj, rfl, hown, hb, hA, hR⟩ := hrel
          have ⟨zI, cI, dI⟩ := hA
          by_cases hjl : j < xs.length
          · obtain ⟨ys, hys⟩ : ∃ ys, ys = clRow (clAll xs k) k j := ⟨_, rfl⟩
            have hyl : ys.length = xs.length := by rw [hys, clRow_len, clAll_len]
            have hysm : Small ys := by rw [hys]; exact clRow_small (clAll_small hsm k hk) (by rw [clAll_len]; exact hlt) j (by rw [clAll_len]; exact hj)
            have hnext : clRow (clAll xs k) k (j + 1) = clStep ys k j := by rw [hys]; rfl
            rw [← hys] at hown
            obtain ⟨g, rfl, hg1, hg2⟩ := hown.head (by omega)
            have hgu := U2 g rfl
            have ⟨ci, fi⟩ := hown.at' hyl.symm (i := j) (by omega)
            have ⟨ck, fk⟩ := hown.at' hyl.symm (i := k) (by omega)
            have ⟨s0, s1⟩ := hysm j (by omega)
            have ⟨t0, t1⟩ := hysm k (by omega)
            have s2 : nth ys j ≤ 9223372036854775807 := by omega
            have hor := or_i (a := nth ys j) (b := nth ys k) s0 (by omega) t0 (by omega)
            have hput := hown.put hyl.symm j (bits .or .i64 (nth ys j) (nth ys k))
            rw [hor] at hput
            have HY := Lib.hid hyl
            have HN := Lib.hid hnext
            have HO := Lib.hid hor
            have HP := Lib.hid hput
            have j0 : (0 : Int) ≤ (j : Int) := by omega
            have j1 : (j : Int) < (xs.length : Int) := by omega
            have k0 : (0 : Int) ≤ (k : Int) := by omega
            have k1 : (k : Int) < (xs.length : Int) := by omega
            clear hys hyl hysm hnext hor hput
            cases hin : hasB (nth ys j) k
            · go_wp2_with fail
              refine (orHas_any _ _ _ s0 s2 k0).mono ?_
              rintro e w' ⟨rfl, rfl⟩
              go_wp2_with fail
              go_roundw
              case rel => exact ⟨j + 1, by omega, by go_num, by rw [HN.out, clStep, hin]; exact hown, hb, hA, hR⟩
              case measure => simp [intOf]; omega
            · go_wp2_with fail
              refine (orHas_any _ _ _ s0 s2 k0).mono ?_
              rintro e w' ⟨rfl, rfl⟩
              go_wp2_with fail
              go_region
              all_goals
                go_wp2_with fail
                go_roundw
                case rel =>
                  refine ⟨j + 1, by omega, by go_num, ?_, ?_, ?_, ?_⟩
                  · rw [HN.out, clStep, hin, if_pos rfl, ← HO.out]
                    have := HP.out.1
                    rw [← HO.out] at this
                    exact this
                  · exact (hb.drew).setCell (p := ⟨g, j, none⟩) (show w.heap.size ≤ g by omega) _
                  · exact hA.set (p := ⟨g, j, none⟩) _ (show b4 ≠ g by omega)
                  · exact hR.other (p := ⟨g, j, none⟩) _ (show w.heap.size + 1 ≠ g by omega)
                case measure => simp [intOf]; omega
          · obtain rfl : j = xs.length := by omega
            go_wp2_with fail
            go_roundw
            case rel => exact ⟨k + 1, by omega, by go_num, by show OwnI wr _ _ (clRow (clAll xs k) k xs.length); exact hown, hb, hA, hR⟩
            case measure => simp [intOf]; omega
      · obtain rfl : k = xs.length := by omega
        have ⟨⟨zR, cR, dR⟩, fR, gR⟩ := hR
        go_wp2_with fail
        have R3 := hR.set (.int .i64 n) (.slice a2 xs.length cap2)
        refine bodyPost_ret (v := .tuple #[.agg #[.int .i64 n, .slice a2 xs.length cap2], .bool true]) (by have ⟨⟨_, q1, q2⟩, _, _⟩ := R3; simp [results, Try.results175, go_sem, q1, q2]) rfl ?_
        refine ⟨a2, cap2, ?_, ?_, ?_⟩
        · rw [H1.out, H2.out, clAll_len]
        · rw [H2.out, clAll_len]
          exact ((hown.setBelow (p := ⟨w.heap.size + 1, 0, none⟩) (show w.heap.size + 1 < w.heap.size + 2 by omega) _).setBelow (p := ⟨w.heap.size + 1, 1, none⟩) (show w.heap.size + 1 < w.heap.size + 2 by omega) _).mono (by omega)
        · exact (hb.setCell (p := ⟨w.heap.size + 1, 0, none⟩) (show w.heap.size ≤ w.heap.size + 1 by omega) _).setCell (p := ⟨w.heap.size + 1, 1, none⟩) (show w.heap.size ≤ w.heap.size + 1 by omega) _

/-- quiet operations in one world leave it as it is -/
theorem still_of_quiet {P : Program} {o : Oper} {a : Act} {w : World} {K : Act → Prop} (h : o.quiet P a (fun w' => w' = w) K) : o.still P a w K := by
  obtain ⟨v, h1, h2⟩ := h
  have h3 := h1 w rfl
  unfold Oper.quietAt at h3
  unfold Oper.still
  generalize (execOp a.eval o).run P w = r at h3
  cases r with
  | ok n w' =>
    cases n <;> simp only [Oper.quietUpon] at h3 <;> simp only [Oper.stillUpon]
    case value u => exact ⟨h3.1, by rw [h3.2]; exact h2⟩
    case skip => exact ⟨h3.1, by rw [← h3.2]; exact h2⟩
    case enter f args => exact ⟨h3.1, v, h3.2, h2⟩
  | halt x w' => simp only [Oper.quietUpon] at h3
theorem wpStill_of_quiet {P : Program} {ops : Array Oper} {w : World} {Q : Act → Prop} : ∀ (l : List Oper) (a : Act), wpQuiet P ops (fun w' => w' = w) Q l a → wpStill P ops w Q l a
  | [], a, h => h
  | o :: rest, a, h => by
    unfold wpQuiet at h
    unfold wpStill
    split
    · rename_i hw
      rw [if_pos hw] at h
      exact Oper.still_mono (fun a' h' => wpStill_of_quiet rest a' h') (still_of_quiet h)
    · rename_i hw
      rw [if_neg hw] at h
      exact wpStill_of_quiet rest _ h
/-- a region that draws its order: all operations but the last ones are quiet -/
theorem wp_region_quiet_tail {P : Program} {id : Nat} {Q : Exit → Act → World → Prop} {a : Act} {w : World} {l : List Oper} (n : Nat) (hm : P.follows .mixedOrders = true) (hB : Region.lexTailB .any l.toArray n = true)
    (h : wpQuiet P l.toArray (fun w' => w' = w.drew) (fun a' => wpList P l.toArray Q (l.drop n) a' w.drew) (l.take n) a) : (Code.region id l.toArray true).wp P Q a w :=
  wp_region_still_tail n hm hB (wpStill_of_quiet _ _ h)

/-- two lists, each in a block of its own -/
def Apart (v u : Value) : Prop := ∀ c, v.ownBlock = some c → u.ownBlock ≠ some c
theorem apart_nil (u : Value) : Apart (.slice none 0 0) u := fun c e => by simp [Value.ownBlock] at e
theorem Apart.left {v v' u : Value} {w : World} {B : Nat} {xs : List Int} (h : Apart v u) (hu : OwnI w B u xs) (hv : v'.ownBlock = v.ownBlock ∨ ∃ g, v'.ownBlock = some g ∧ w.heap.size ≤ g) : Apart v' u := fun c e e2 => by
  rcases hv with e3 | ⟨g, e3, hg⟩
  · exact h c (by rw [← e3]; exact e) e2
  · rw [e3] at e; simp only [Option.some.injEq] at e; have := (hu.lt c e2).2; omega
theorem Apart.right {v u u' : Value} {w : World} {B : Nat} {xs : List Int} (h : Apart v u) (hv : OwnI w B v xs) (hu : u'.ownBlock = u.ownBlock ∨ ∃ g, u'.ownBlock = some g ∧ w.heap.size ≤ g) : Apart v u' := fun c e e2 => by
  rcases hu with e3 | ⟨g, e3, hg⟩
  · exact h c e (by rw [← e3]; exact e2)
  · rw [e3] at e2; simp only [Option.some.injEq] at e2; have := (hv.lt c e).2; omega
theorem Apart.own {v u : Value} (h : Apart v u) : v.ownBlock = none ∨ v.ownBlock ≠ u.ownBlock := own_ne (fun c e e2 => h c e e2)
theorem Apart.own' {v u : Value} (h : Apart v u) : u.ownBlock = none ∨ u.ownBlock ≠ v.ownBlock := own_ne (fun c e e2 => h c e2 e)
theorem zeros_small (n : Nat) : ∀ j, j < n → 0 ≤ nth (List.replicate n (0 : Int)) j ∧ nth (List.replicate n (0 : Int)) j < 1024 := fun j hj => by
  have e : nth (List.replicate n (0 : Int)) j = 0 := by simp [nth, hj]
  rw [e]; omega
/-- what holds while the pairs are drawn -/
structure OrdInv (w : World) (Z G V B p c n : Nat) (lv rv : Value) (ls rs : List Int) : Prop where
  ex : ∃ xs : List Int, xs.length = n ∧ OwnI w G (.slice (some ⟨G, 0, none⟩) n n) xs ∧ (∀ k, k < n → 0 ≤ nth xs k ∧ nth xs k < 1024) ∧ Var2 w V (.int .i64 (n : Int)) (.slice (some ⟨G, 0, none⟩) n n) ∧ Var2 w Z (.int .i64 0) (.slice none 0 0) ∧ OwnI w B lv ls ∧ OwnI w B rv rs ∧ Cur w p c
theorem OrdInv.mono {w : World} {Z G V B p c c' n : Nat} {lv rv : Value} {ls rs : List Int} (h : OrdInv w Z G V B p c n lv rv ls rs) (hc : c ≤ c') : OrdInv w Z G V B p c' n lv rv ls rs := by
  obtain ⟨xs, h1, h2, h3, h4, h5, h6, h7, h8⟩ := h.ex
  exact ⟨xs, h1, h2, h3, h4, h5, h6, h7, h8.mono hc⟩
theorem OrdInv.drawn {w w' : World} {Z G V B p c n c' : Nat} {lv rv : Value} {ls rs : List Int} (h : OrdInv w Z G V B p c n lv rv ls rs) (hd : Drawn w w' p) (hc : Cur w' p c') (hZ : p < Z) (hG : p < G) (hV : p < V) (hB : p < B) : OrdInv w' Z G V B p c' n lv rv ls rs := by
  obtain ⟨xs, h1, h2, h3, h4, h5, h6, h7, h8⟩ := h.ex
  exact ⟨xs, h1, h2.drawn hd hG, h3, h4.drawn hd (by omega), h5.drawn hd (by omega), h6.drawn hd hB, h7.drawn hd hB, hc⟩
theorem OrdInv.drawnN {w : World} {Z G V B p c n c' k : Nat} {lv rv : Value} {ls rs : List Int} (h : OrdInv w Z G V B p c n lv rv ls rs) (hc : c ≤ c') : OrdInv (w.drewN k) Z G V B p c' n lv rv ls rs := by
  obtain ⟨xs, h1, h2, h3, h4, h5, h6, h7, h8⟩ := h.ex
  have b := Joins.below_draws w.heap.size w k
  exact ⟨xs, h1, h2.below b (Nat.le_refl _), h3, h4.below b, h5.below b, h6.below b (Nat.le_refl _), h7.below b (Nat.le_refl _), (h8.below b).mono hc⟩
theorem OrdInv.below {w w' : World} {Z G V B p c n : Nat} {lv rv : Value} {ls rs : List Int} (h : OrdInv w Z G V B p c n lv rv ls rs) (b : Below w.heap.size w w') : OrdInv w' Z G V B p c n lv rv ls rs := by
  obtain ⟨xs, h1, h2, h3, h4, h5, h6, h7, h8⟩ := h.ex
  exact ⟨xs, h1, h2.below b (Nat.le_refl _), h3, h4.below b, h5.below b, h6.below b (Nat.le_refl _), h7.below b (Nat.le_refl _), h8.below b⟩
theorem OrdInv.put {w W' : World} {Z G V B p c c' n a : Nat} {lv rv : Value} {ls rs xs : List Int} (hl : xs.length = n) (ho : OwnI w G (.slice (some ⟨G, 0, none⟩) n n) xs) (hx : ∀ k, k < n → 0 ≤ nth xs k ∧ nth xs k < 1024) (hV : Var2 w V (.int .i64 (n : Int)) (.slice (some ⟨G, 0, none⟩) n n)) (hZ : Var2 w Z (.int .i64 0) (.slice none 0 0)) (hA : OwnI w B lv ls) (hB : OwnI w B rv rs) (hc : Cur w p c)
    (hb : Below w.heap.size w W') (ha : a < n) (y : Nat) (hy : y < 1024) (hc' : c ≤ c') (h1 : G < B) (h2 : V ≠ G) (h3 : Z ≠ G) (h4 : p < G) : OrdInv (W'.setCell ⟨G, a, none⟩ (.int .i64 (y : Int))) Z G V B p c' n lv rv ls rs := by
  have hput := ((ho.below hb (Nat.le_refl _)).put hl.symm a (y : Int)).1
  refine ⟨xs.set a (y : Int), by simp; exact hl, hput, fun j hj => ?_, (hV.below hb).other (p := ⟨G, a, none⟩) _ h2, (hZ.below hb).other (p := ⟨G, a, none⟩) _ h3, (hA.below hb (Nat.le_refl _)).setBelow (p := ⟨G, a, none⟩) h1 _, (hB.below hb (Nat.le_refl _)).setBelow (p := ⟨G, a, none⟩) h1 _, ((hc.below hb).set ⟨G, a, none⟩ _ h4).mono hc'⟩
  by_cases e : j = a
  · rw [e, nth_set (by omega), if_pos rfl]; omega
  · rw [nth_set (by omega), if_neg (fun h => e h.symm)]; exact hx j hj
theorem cloN_len (n : Int) (xs : List Int) : cloN n xs = ((cloL n xs).length : Int) := by
  unfold cloN cloL
  cases h : relB n xs
  · simp
  · simp only [if_true, clAll_len]
    exact (relB_p h).len.symm
theorem cloL_le (n : Int) (xs : List Int) : (cloL n xs).length ≤ xs.length := by
  unfold cloL
  split
  · rw [clAll_len]; exact Nat.le_refl _
  · simp
theorem cloL_small {n : Int} {xs : List Int} (h : ∀ k, k < xs.length → 0 ≤ nth xs k ∧ nth xs k < 1024) : ∀ k, k < (cloL n xs).length → 0 ≤ nth (cloL n xs) k ∧ nth (cloL n xs) k < 1024 := by
  unfold cloL
  split
  · exact clAll_small h _ (Nat.le_refl _)
  · intro k hk; simp at hk
set_option maxRecDepth 100000 in
set_option maxHeartbeats 2000000 in
theorem order_any (p L m : Nat) (w : World) (h : Cur w p L) (hL : L ≤ 700000000) (hm : m ≤ 10) :
    Calls Try.prog 160 #[.pointer (some ⟨p, 0, none⟩), .int .i64 (m : Int)] w fun e w' => ∃ a cap xs, e = .returned (.agg #[.int .i64 (xs.length : Int), .slice a xs.length cap]) ∧ OwnI w' w.heap.size (.slice a xs.length cap) xs ∧ xs.length ≤ m ∧ (∀ k, k < xs.length → 0 ≤ nth xs k ∧ nth xs k < 1024) ∧ Cur w' p (L + 400) ∧ Drawn w w' p := by
  obtain ⟨i0, hi, hz0, hz1, hz2⟩ := info_parts infoInt
  have hpw := h.lt
  have ha : Below w.heap.size w (w.alloc (.cells #[.int .i64 0, .slice none 0 0] 28)) := (by repeat (first | exact Below.refl _ _ | assumption | refine Below.alloc ?_ (by first | exact Nat.le_refl _ | (simp only [World.size_alloc, World.size_setCell, World.size_drew]; omega) | omega) _ | refine Below.setCell ?_ (by first | exact Nat.le_refl _ | (simp only [World.size_alloc, World.size_setCell, World.size_drew]; omega) | omega) _ | refine Below.drew ?_))
  have H := Lib.hid (h.below ha)
  have HR := Lib.hid (Var2.new w (.int .i64 0) (.slice none 0 0) 28)
  clear h
  go_enter Try.func160, Try.ntmps160
  go_wp2_with fail
  refine (pick_any p L ((m : Int) + 1) _ H.out (by omega) (by omega)).mono ?_
  rintro e w1 ⟨r, rfl, hr0, hr1, hc1, hd1⟩
  obtain ⟨n, rfl⟩ := Int.eq_ofNat_of_zero_le hr0
  have hn : n ≤ m := by omega
  have hs1 : w.heap.size + 1 ≤ w1.heap.size := by have := hd1.size; simpa using this
  have HC1 := Lib.hid hc1
  have HD1 := Lib.hid hd1.of_alloc
  have HR1 := Lib.hid (HR.out.drawn hd1 (by omega))
  clear hc1 hd1 hr0 hr1
  go_wp2_with (at_make; refine wpList_make_full _ rfl (.tmp 21) (.tmp 21) 26 rfl w1.heap.size 3 i0 (.int .i64 0) 1 Try.underlying26 hi hz0 hz1 .i64 .i64 _ _ n rfl rfl rfl rfl (by rw [hz2]; omega) (by unfold maxLen; omega) (Nat.le_refl _) ?_; intro w2 hown hgrow; revert hgrow)
  intro hgrow
  have b2 : Below w1.heap.size w1 w2 := (Below.refl _ _).grown hgrow (Nat.le_refl _) (fun k h => by cases h)
  have ho2 : OwnI w2 w1.heap.size (.slice (some ⟨w1.heap.size, 0, none⟩) n n) (List.replicate n 0) := by
    unfold OwnI
    simpa [Value.cells, toList_madeCells_one] using hown
  have hs2 : w1.heap.size < w2.heap.size := (ho2.lt w1.heap.size rfl).2
  have HB2 := Lib.hid b2
  have HO2 := Lib.hid ho2
  clear hown hgrow b2 ho2
  go_wp2_with fail
  have ba2 : Below w2.heap.size w2 (w2.alloc (.cells #[.int .i64 (n : Int), .slice (some ⟨w1.heap.size, 0, none⟩) n n] 28)) := (by repeat (first | exact Below.refl _ _ | assumption | refine Below.alloc ?_ (by first | exact Nat.le_refl _ | (simp only [World.size_alloc, World.size_setCell, World.size_drew]; omega) | omega) _ | refine Below.setCell ?_ (by first | exact Nat.le_refl _ | (simp only [World.size_alloc, World.size_setCell, World.size_drew]; omega) | omega) _ | refine Below.drew ?_))
  have b12 := HB2.out.trans (ba2.mono HB2.out.size)
  refine (pick_any p (L + 2) 3 _ (HC1.out.below b12) (by omega) (by omega)).mono ?_
  rintro e w3 ⟨kd, rfl, hkd0, hkd1, hc3, hd3⟩
  have hs3 : w2.heap.size + 1 ≤ w3.heap.size := by have := hd3.size; simpa using this
  have HC3 := Lib.hid hc3
  have HD3 := Lib.hid ((HD1.out.below b12).trans hd3)
  have HO3 := Lib.hid ((HO2.out.alloc (.cells #[.int .i64 (n : Int), .slice (some ⟨w1.heap.size, 0, none⟩) n n] 28)).drawn hd3 (by omega))
  have HV3 := Lib.hid ((Var2.new w2 (.int .i64 (n : Int)) (.slice (some ⟨w1.heap.size, 0, none⟩) n n) 28).drawn hd3 (by omega))
  have HR3 := Lib.hid ((HR1.out.below b12).drawn hd3 (by omega))
  clear hc3 hd3 ba2 b12 hkd1 HC1 HD1 HR1 HB2 HO2 H HR
  go_wp2_with fail
  go_loopw [8, 9, 10] (fun v u i wr => ∃ (k : Nat) (ls rs : List Int), k ≤ n ∧ i = .int .i64 k ∧ ls.length = k ∧ rs.length = k ∧ OwnI wr w3.heap.size v ls ∧ OwnI wr w3.heap.size u rs ∧ Apart v u ∧ Cur wr p (L + 4 + 4 * k) ∧ Drawn w3 wr p) (fun _ _ i _ => n - (intOf i).toNat)
  case atStart => exact ⟨0, [], [], Nat.zero_le _, rfl, rfl, rfl, OwnI.nil _ _, OwnI.nil _ _, apart_nil _, HC3.out, Drawn.refl _ _⟩
  case round =>
    obtain ⟨k, ls, rs, hk, rfl, hl1, hl2, hol, hor, hap, hc, hd⟩ := hrel
    obtain ⟨al, cl, rfl⟩ := hol.form
    obtain ⟨ar, cr, rfl⟩ := hor.form
    have hds := hd.size
    by_cases hlt : k < n
    · have k1 : (k : Int) < (n : Int) := by omega
      have HOL := Lib.hid hol
      have HOR := Lib.hid hor
      have HAP := Lib.hid hap
      have HC := Lib.hid hc
      have HD := Lib.hid hd
      have HL1 := Lib.hid hl1
      have HL2 := Lib.hid hl2
      clear hol hor hap hc hd hl1 hl2
      go_wp2_with fail
      refine (pick_any p (L + 4 + 4 * k) 8 _ HC.out (by omega) (by omega)).mono ?_
      rintro e w4 ⟨x, rfl, hx0, hx1, hc4, hd4⟩
      have hs4 := hd4.size
      have HC4 := Lib.hid hc4
      have HD4 := Lib.hid (HD.out.trans hd4)
      have HOL4 := Lib.hid (HOL.out.drawn hd4 (by omega))
      have HOR4 := Lib.hid (HOR.out.drawn hd4 (by omega))
      have hll : ls.length ≤ 1048576 := by have := HL1.out; omega
      have hb4 : w3.heap.size ≤ w4.heap.size := by omega
      clear hc4 hd4
      go_wp2_with (at_builtin; refine push_at (v := .slice al ls.length cl) (z := x) rfl _ _ rfl rfl HOL4.out rfl hll hb4 ?_; intro v5 w5 o5 hg5 hat5; revert hat5)
      intro hat5
      obtain ⟨a5, c5, ev5⟩ := o5.form
      subst ev5
      have hlo := HOL4.out.lt
      have hs5 := hg5.size
      have hap5 : Apart (.slice a5 (ls ++ [x]).length c5) (.slice ar rs.length cr) := HAP.out.left HOR4.out (hat5.imp id (fun h => ⟨_, h, by omega⟩))
      have hor5 := HOR4.out.kept hg5 HAP.out.own'
      have hc5 := HC4.out.kept hg5 (fun g e => by have := (hlo g e).1; omega)
      have hd5 := HD4.out.grown hg5 (fun c e => (hlo c e).1)
      have hll5 : (ls ++ [x]).length = k + 1 := by simp; exact HL1.out
      have HOL5 := Lib.hid o5
      have HOR5 := Lib.hid hor5
      have HAP5 := Lib.hid hap5
      have HC5 := Lib.hid hc5
      have HD5 := Lib.hid hd5
      have HLL5 := Lib.hid hll5
      have hrl : rs.length ≤ 1048576 := by have := HL2.out; omega
      have hb5 : w3.heap.size ≤ w5.heap.size := by omega
      obtain ⟨q, hq⟩ : ∃ q, q = ls ++ [x] := ⟨_, rfl⟩
      rw [← hq] at HOL5 HAP5 HLL5 ⊢
      clear o5 hg5 hat5 hlo hap5 hor5 hc5 hd5 hll5 hq
      cases hkd1 : (kd == 1)
      · go_wp2_with (at_builtin; refine push_at (v := .slice ar rs.length cr) (z := x + 2) rfl _ _ rfl rfl HOR5.out rfl hrl hb5 ?_; intro v6 w6 o6 hg6 hat6; revert hat6)
        intro hat6
        obtain ⟨a6, c6, ev6⟩ := o6.form
        subst ev6
        have hlo6 := HOR5.out.lt
        have hs6 := hg6.size
        have hap6 : Apart (.slice a5 q.length c5) (.slice a6 (rs ++ [x + 2]).length c6) := HAP5.out.right HOL5.out (hat6.imp id (fun h => ⟨_, h, by omega⟩))
        have hol6 := HOL5.out.kept hg6 HAP5.out.own
        have hc6 := HC5.out.kept hg6 (fun g e => by have := (hlo6 g e).1; omega)
        have hd6 := HD5.out.grown hg6 (fun c e => (hlo6 c e).1)
        have hll6 : (rs ++ [x + 2]).length = k + 1 := by simp; exact HL2.out
        have H6 := Lib.hid (And.intro hol6 (And.intro o6 (And.intro hap6 (And.intro hc6 hd6))))
        have HLL6 := Lib.hid hll6
        clear o6 hg6 hat6 hlo6 hap6 hol6 hc6 hd6 hll6
        go_wp2_with fail
        go_roundw
        case rel => exact ⟨k + 1, q, rs ++ [x + 2], by omega, by go_num, HLL5.out, HLL6.out, H6.out.1, H6.out.2.1, H6.out.2.2.1, H6.out.2.2.2.1.mono (by omega), H6.out.2.2.2.2⟩
        case measure => simp [intOf]; omega
      · go_wp2_with fail
        refine (pick_any p (L + 4 + 4 * k + 2) 4 _ HC5.out (by omega) (by omega)).mono ?_
        rintro e w8 ⟨y, rfl, hy0, hy1, hc8, hd8⟩
        have hs8 := hd8.size
        have HC8 := Lib.hid hc8
        have HOL8 := Lib.hid (HOL5.out.drawn hd8 (by omega))
        have HOR8 := Lib.hid (HOR5.out.drawn hd8 (by omega))
        have HD8 := Lib.hid (HD5.out.trans hd8)
        have hb8 : w3.heap.size ≤ w8.heap.size := by omega
        clear hc8 hd8
        go_wp2_with (at_builtin; refine push_at (v := .slice ar rs.length cr) (z := x + y) rfl _ _ rfl rfl HOR8.out rfl hrl hb8 ?_; intro v6 w6 o6 hg6 hat6; revert hat6)
        intro hat6
        obtain ⟨a6, c6, ev6⟩ := o6.form
        subst ev6
        have hlo6 := HOR8.out.lt
        have hs6 := hg6.size
        have hap6 : Apart (.slice a5 q.length c5) (.slice a6 (rs ++ [x + y]).length c6) := HAP5.out.right HOL8.out (hat6.imp id (fun h => ⟨_, h, by omega⟩))
        have hol6 := HOL8.out.kept hg6 HAP5.out.own
        have hc6 := HC8.out.kept hg6 (fun g e => by have := (hlo6 g e).1; omega)
        have hd6 := HD8.out.grown hg6 (fun c e => (hlo6 c e).1)
        have hll6 : (rs ++ [x + y]).length = k + 1 := by simp; exact HL2.out
        have H6 := Lib.hid (And.intro hol6 (And.intro o6 (And.intro hap6 (And.intro hc6 hd6))))
        have HLL6 := Lib.hid hll6
        clear o6 hg6 hat6 hlo6 hap6 hol6 hc6 hd6 hll6
        go_wp2_with fail
        go_roundw
        case rel => exact ⟨k + 1, q, rs ++ [x + y], by omega, by go_num, HLL5.out, HLL6.out, H6.out.1, H6.out.2.1, H6.out.2.2.1, H6.out.2.2.2.1.mono (by omega), H6.out.2.2.2.2⟩
        case measure => simp [intOf]; omega
    · obtain rfl : k = n := by omega
      have hsw : w3.heap.size ≤ wr.heap.size := hds
      have HL1 := Lib.hid hl1
      have HL2 := Lib.hid hl2
      have HIV : Hid (OrdInv wr w.heap.size w1.heap.size w2.heap.size w3.heap.size p (L + 4 + 4 * k) k (.slice al ls.length cl) (.slice ar rs.length cr) ls rs ∧ Drawn w wr p) :=
        ⟨⟨List.replicate k 0, by simp, HO3.out.drawn hd (by omega), zeros_small k, HV3.out.drawn hd (by omega), HR3.out.drawn hd (by omega), hol, hor, hc⟩, HD3.out.trans hd⟩
      obtain ⟨W4, hW4⟩ : ∃ x : World, x = wr := ⟨_, rfl⟩
      subst hW4
      clear hol hor hap hc hd hl1 hl2
      go_wp2_with fail
      go_loopw [12] (fun i wr => ∃ (a : Nat), a ≤ k ∧ i = .int .i64 a ∧ OrdInv wr w.heap.size w1.heap.size w2.heap.size w3.heap.size p (L + 4 + 4 * k + a * (2 * k)) k (.slice al ls.length cl) (.slice ar rs.length cr) ls rs ∧ Drawn w wr p) (fun i _ => k - (intOf i).toNat)
      case atStart => exact ⟨0, Nat.zero_le _, rfl, by simpa using HIV.out.1, HIV.out.2⟩
      case round =>
        obtain ⟨a, hak, rfl, hI, hd⟩ := hrel
        by_cases hal : a < k
        · have a1 : (a : Int) < (k : Int) := by omega
          have HI := Lib.hid hI
          have HD := Lib.hid hd
          obtain ⟨W5, hW5⟩ : ∃ x : World, x = wr := ⟨_, rfl⟩
          subst hW5
          clear hI hd
          go_wp2_with fail
          go_loopw [13] (fun j wr => ∃ (b : Nat), b ≤ k ∧ j = .int .i64 b ∧ OrdInv wr w.heap.size w1.heap.size w2.heap.size w3.heap.size p (L + 4 + 4 * k + a * (2 * k) + 2 * b) k (.slice al ls.length cl) (.slice ar rs.length cr) ls rs ∧ Drawn w wr p) (fun j _ => k - (intOf j).toNat)
          case atStart => exact ⟨0, Nat.zero_le _, rfl, HI.out, HD.out⟩
          case round =>
            obtain ⟨b, hbk, rfl, hI, hd⟩ := hrel
            by_cases hbl : b < k
            · have b1 : (b : Int) < (k : Int) := by omega
              have hkk : a * (2 * k) ≤ 200 := Nat.le_trans (Nat.mul_le_mul (show a ≤ 10 by omega) (show 2 * k ≤ 20 by omega)) (by omega)
              by_cases hk0 : kd = 0
              · subst hk0
                by_cases hab : a < b
                · have hab' : (a : Int) < (b : Int) := by omega
                  have HI2 := Lib.hid hI
                  have HD2 := Lib.hid hd
                  clear hI hd
                  have ⟨xs9, hl9, ho9, hx9, hV9, hZ9, hA9, hB9, hc9⟩ := HI2.out.ex
                  have HC9 := Lib.hid hc9
                  have HZ9 := Lib.hid hZ9
                  have c9 := hZ9.1.2.1
                  clear hl9 ho9 hx9 hV9 hZ9 hA9 hB9 hc9
                  go_wp2_with fail
                  refine wp_region_quiet_tail 23 (by kernel_rfl) (by kernel_rfl) ?_
                  simp only [List.take_succ_cons, List.take_zero, List.drop_succ_cons, List.drop_zero]
                  repeat (go_big_quiet_step (fail))
                  refine wpQuiet_nil ?_
                  have HI5 := Lib.hid (HI2.out.drawnN (k := 1) (c' := L + 4 + 4 * k + a * (2 * k) + 2 * b) (Nat.le_refl _))
                  have HD5 := Lib.hid (HD2.out.below (Joins.below_draws wr.heap.size wr 1))
                  have HC5 := Lib.hid (HC9.out.below (Joins.below_draws wr.heap.size wr 1))
                  go_wp2_with fail
                  refine (one_any p (L + 4 + 4 * k + a * (2 * k) + 2 * b) 3 _ HC5.out (by omega) (by omega)).mono ?_
                  rintro e w5 ⟨he, hc5, hd5⟩
                  have HI6 := Lib.hid (HI5.out.drawn hd5 hc5 (by omega) (by omega) (by omega) (by omega))
                  have HD6 := Lib.hid (HD5.out.trans hd5)
                  have hs5 := hd5.size
                  clear hc5 hd5 HI5 HD5 HC5
                  rcases he with rfl | rfl
                  · go_wp2_with fail
                    obtain ⟨xs, hl, ho, hx, hV, hZ, hA, hB, hc⟩ := HI6.out.ex
                    have ⟨ci, fi⟩ := ho.at' hl.symm (i := a) (by omega)
                    have hxa := hx a hal
                    obtain ⟨q, hq⟩ : ∃ q : Nat, nth xs a = (q : Int) := ⟨(nth xs a).toNat, by omega⟩
                    rw [hq] at ci hxa
                    have hq10 : q < 2 ^ 10 := by omega
                    have hor := or_bit (b := q) (k := b) (by omega) (by omega)
                    have hqb : q ||| 2 ^ b < 1024 := by
                      have := or_lt (a := q) (b := 2 ^ b) hq10 (two_lt (show b < 10 by omega)); omega
                    have ⟨⟨zV, cV, dV⟩, fV, gV⟩ := hV
                    have HN : Hid (∀ W', Below w5.heap.size w5 W' → OrdInv (W'.setCell ⟨w1.heap.size, a, none⟩ (.int .i64 ((q ||| 2 ^ b : Nat) : Int))) w.heap.size w1.heap.size w2.heap.size w3.heap.size p (L + 4 + 4 * k + a * (2 * k) + 2 * (b + 1)) k (.slice al ls.length cl) (.slice ar rs.length cr) ls rs ∧ Drawn w (W'.setCell ⟨w1.heap.size, a, none⟩ (.int .i64 ((q ||| 2 ^ b : Nat) : Int))) p) := fun W' hb =>
                      ⟨OrdInv.put hl ho hx hV hZ hA hB hc hb hal _ hqb (by omega) (by omega) (by omega) (by omega) (by omega), (HD6.out.below hb).set ⟨w1.heap.size, a, none⟩ _ (show w.heap.size ≤ w1.heap.size by omega)⟩
                    have HOR := Lib.hid hor
                    clear hl ho hx hV hZ hA hB hc hxa hq hor
                    go_wp2_with fail
                    go_region
                    all_goals
                      go_wp2_with fail
                      rw [HOR.out]
                      go_roundw
                      case rel => exact ⟨b + 1, by omega, by go_num, (HN.out w5 (Below.refl _ _)).1.below (Below.refl _ _).drew, (HN.out w5 (Below.refl _ _)).2.below (Below.refl _ _).drew⟩
                      case measure => simp [intOf]; omega
                  · go_wp2_with fail
                    go_roundw
                    case rel => exact ⟨b + 1, by omega, by go_num, HI6.out.mono (by omega), HD6.out⟩
                    case measure => simp [intOf]; omega
                · have hab' : ¬ ((a : Int) < (b : Int)) := by omega
                  have HI2 := Lib.hid hI
                  have HD2 := Lib.hid hd
                  clear hI hd
                  go_wp2_with fail
                  go_quiet (fail)
                  go_wp2_with fail
                  have HI3 := Lib.hid (HI2.out.drawnN (k := nq) (c' := L + 4 + 4 * k + a * (2 * k) + 2 * (b + 1)) (by omega))
                  have HD3 := Lib.hid (HD2.out.below (Joins.below_draws wr.heap.size wr nq))
                  go_roundw
                  case rel => exact ⟨b + 1, by omega, by go_num, HI3.out, HD3.out⟩
                  case measure => simp [intOf]; omega
              · have hk1 : (0 : Int) < kd := by omega
                obtain ⟨xs0, hl0, ho0, hx0, hV0, hZ0, hA0, hB0, hc0⟩ := hI.ex
                obtain ⟨g1, o1, e1, hg1, hcr⟩ := hB0.rd.cell a (by have := HL2.out; omega)
                obtain ⟨g2, o2, e2, hg2, hcl⟩ := hA0.rd.cell b (by have := HL1.out; omega)
                have E1 := Lib.hid e1
                have E2 := Lib.hid e2
                subst e1 e2
                have a9 : (a : Int) < (rs.length : Int) := by have := HL2.out; omega
                have b9 : (b : Int) < (ls.length : Int) := by have := HL1.out; omega
                have HI2 := Lib.hid hI
                have HD2 := Lib.hid hd
                clear hI hd ho0 hx0 hV0 hZ0 hA0 hB0 hc0 hl0
                cases hlt9 : decide (nth rs a < nth ls b)
                · go_wp2_with fail
                  go_quiet (fail)
                  go_wp2_with fail
                  have HI3 := Lib.hid (HI2.out.drawnN (k := nq) (c' := L + 4 + 4 * k + a * (2 * k) + 2 * (b + 1)) (by omega))
                  have HD3 := Lib.hid (HD2.out.below (Joins.below_draws wr.heap.size wr nq))
                  go_roundw
                  case rel => exact ⟨b + 1, by omega, by go_num, HI3.out, HD3.out⟩
                  case measure => simp [intOf]; omega
                · go_wp2_with fail
                  go_quiet (fail)
                  obtain ⟨xs, hl, ho, hx, hV, hZ, hA, hB, hc⟩ := HI2.out.ex
                  have ⟨ci, fi⟩ := ho.at' hl.symm (i := a) (by omega)
                  have hxa := hx a hal
                  obtain ⟨q, hq⟩ : ∃ q : Nat, nth xs a = (q : Int) := ⟨(nth xs a).toNat, by omega⟩
                  rw [hq] at ci hxa
                  have hq10 : q < 2 ^ 10 := by omega
                  have hor := or_bit (b := q) (k := b) (by omega) (by omega)
                  have hqb : q ||| 2 ^ b < 1024 := by
                    have := or_lt (a := q) (b := 2 ^ b) hq10 (two_lt (show b < 10 by omega)); omega
                  have ⟨⟨zV, cV, dV⟩, fV, gV⟩ := hV
                  have HN : Hid (∀ W', Below wr.heap.size wr W' → OrdInv (W'.setCell ⟨w1.heap.size, a, none⟩ (.int .i64 ((q ||| 2 ^ b : Nat) : Int))) w.heap.size w1.heap.size w2.heap.size w3.heap.size p (L + 4 + 4 * k + a * (2 * k) + 2 * (b + 1)) k (.slice (some ⟨g2, o2, none⟩) ls.length cl) (.slice (some ⟨g1, o1, none⟩) rs.length cr) ls rs ∧ Drawn w (W'.setCell ⟨w1.heap.size, a, none⟩ (.int .i64 ((q ||| 2 ^ b : Nat) : Int))) p) := fun W' hb =>
                    ⟨OrdInv.put hl ho hx hV hZ hA hB hc hb hal _ hqb (by omega) (by omega) (by omega) (by omega) (by omega), (HD2.out.below hb).set ⟨w1.heap.size, a, none⟩ _ (show w.heap.size ≤ w1.heap.size by omega)⟩
                  have HOR := Lib.hid hor
                  clear hl ho hx hV hZ hA hB hc hxa hq hor
                  go_wp2_with fail
                  go_region
                  all_goals
                    go_wp2_with fail
                    rw [HOR.out]
                    go_roundw
                    case rel => exact ⟨b + 1, by omega, by go_num, (HN.out _ (by first | exact Joins.below_draws _ _ _ | exact (Joins.below_draws _ _ _).trans ((Joins.below_draws _ _ _).mono (by simp)))).1, (HN.out _ (by first | exact Joins.below_draws _ _ _ | exact (Joins.below_draws _ _ _).trans ((Joins.below_draws _ _ _).mono (by simp)))).2⟩
                    case measure => simp [intOf]; omega
            · obtain rfl : b = k := by omega
              have HI2 := Lib.hid hI
              have HD2 := Lib.hid hd
              clear hI hd
              go_wp2_with fail
              go_roundw
              case rel => exact ⟨a + 1, by omega, by go_num, HI2.out.mono (by rw [Nat.add_mul]; omega), HD2.out⟩
              case measure => simp [intOf]; omega
        · obtain rfl : a = k := by omega
          have hkk : a * (2 * a) ≤ 200 := Nat.le_trans (Nat.mul_le_mul (show a ≤ 10 by omega) (show 2 * a ≤ 20 by omega)) (by omega)
          obtain ⟨xs, hl, ho, hx, hV, hZ, hA, hB, hc⟩ := hI.ex
          have HL := Lib.hid hl
          have HO := Lib.hid ho
          have HX := Lib.hid hx
          have HZ := Lib.hid hZ
          have HC := Lib.hid hc
          have HD := Lib.hid hd
          have ⟨⟨zV, cV, dV⟩, fV, gV⟩ := hV
          have ⟨⟨zZ, cZ, dZ⟩, fZ, gZ⟩ := hZ
          obtain ⟨W6, hW6⟩ : ∃ x : World, x = wr := ⟨_, rfl⟩
          subst hW6
          clear hI hd hl ho hx hV hZ hA hB hc
          by_cases hk0 : kd = 0
          · subst hk0
            go_wp2_with fail
            have hnb : -9223372036854775808 ≤ (a : Int) ∧ (a : Int) ≤ 9223372036854775807 := by omega
            have HCL := Lib.hid (sCloseRelation_any (a : Int) (some ⟨w1.heap.size, 0, none⟩) xs a W6 hnb HO.out.rd)
            unfold GotO at HCL
            have HCN : Hid (cloN (a : Int) xs = ((cloL (a : Int) xs).length : Int)) := cloN_len (a : Int) xs
            have HCS : Hid (∀ k, k < (cloL (a : Int) xs).length → 0 ≤ nth (cloL (a : Int) xs) k ∧ nth (cloL (a : Int) xs) k < 1024) := cloL_small (fun k hk => HX.out k (by rw [HL.out] at hk; exact hk))
            have HCM : Hid ((cloL (a : Int) xs).length ≤ m) := Nat.le_trans (cloL_le (a : Int) xs) (by rw [HL.out]; exact hn)
            rw [HL.out, HCN.out] at HCL
            obtain ⟨ys, hys⟩ : ∃ ys, ys = cloL (a : Int) xs := ⟨_, rfl⟩
            rw [← hys] at HCL HCS HCM
            generalize relB (a : Int) xs = rb at HCL
            clear hys HCN
            refine HCL.out.mono ?_
            rintro e w7 ⟨a7, c7, rfl, ho7, hb7⟩
            have hs7 := hb7.size
            have hZ7 := HZ.out.below hb7
            have hC7 := HC.out.below hb7
            have hD7 := HD.out.below hb7
            have ⟨⟨zZ7, cZ7, dZ7⟩, fZ7, gZ7⟩ := hZ7
            have HO7 := Lib.hid ho7
            have HZ7 := Lib.hid hZ7
            have HC7 := Lib.hid hC7
            have HD7 := Lib.hid hD7
            clear hb7 ho7 hZ7 hC7 hD7 HCL
            go_wp2_with fail
            have R3 := (HZ7.out.set (.int .i64 (ys.length : Int)) (.slice a7 ys.length c7)).alloc (.cells #[.int .i64 (ys.length : Int), .slice a7 ys.length c7] 28)
            refine bodyPost_ret (v := .agg #[.int .i64 (ys.length : Int), .slice a7 ys.length c7]) (by have ⟨⟨_, q1, q2⟩, _, _⟩ := R3; simp [results, Try.results160, go_sem, q1, q2]) rfl ?_
            have hO9 := (((HO7.out.setBelow (p := ⟨w.heap.size, 0, none⟩) (show w.heap.size < W6.heap.size by omega) (.int .i64 (ys.length : Int))).setBelow (p := ⟨w.heap.size, 1, none⟩) (show w.heap.size < W6.heap.size by omega) (.slice a7 ys.length c7)).alloc (.cells #[.int .i64 (ys.length : Int), .slice a7 ys.length c7] 28)).mono (show w.heap.size ≤ W6.heap.size by omega)
            have hC9 := ((((HC7.out.set ⟨w.heap.size, 0, none⟩ (.int .i64 (ys.length : Int)) (show p < w.heap.size by omega)).set ⟨w.heap.size, 1, none⟩ (.slice a7 ys.length c7) (show p < w.heap.size by omega)).alloc (.cells #[.int .i64 (ys.length : Int), .slice a7 ys.length c7] 28)).mono (show L + 4 + 4 * a + a * (2 * a) ≤ L + 400 by omega))
            have hD9 := ((HD7.out.set ⟨w.heap.size, 0, none⟩ (.int .i64 (ys.length : Int)) (Nat.le_refl _)).set ⟨w.heap.size, 1, none⟩ (.slice a7 ys.length c7) (Nat.le_refl _)).alloc (.cells #[.int .i64 (ys.length : Int), .slice a7 ys.length c7] 28)
            exact ⟨a7, c7, ys, rfl, hO9, HCM.out, HCS.out, hC9, hD9⟩
          · have hk1 : (0 : Int) < kd := by omega
            go_wp2_with fail
            have R3 := HZ.out.set (.int .i64 (a : Int)) (.slice (some ⟨w1.heap.size, 0, none⟩) a a)
            refine bodyPost_ret (v := .agg #[.int .i64 (a : Int), .slice (some ⟨w1.heap.size, 0, none⟩) a a]) (by have ⟨⟨_, q1, q2⟩, _, _⟩ := R3; simp [results, Try.results160, go_sem, q1, q2]) rfl ?_
            have hO9 := ((HO.out.setBelow (p := ⟨w.heap.size, 0, none⟩) (show w.heap.size < w1.heap.size by omega) (.int .i64 (a : Int))).setBelow (p := ⟨w.heap.size, 1, none⟩) (show w.heap.size < w1.heap.size by omega) (.slice (some ⟨w1.heap.size, 0, none⟩) a a)).mono (show w.heap.size ≤ w1.heap.size by omega)
            have hC9 := ((HC.out.set ⟨w.heap.size, 0, none⟩ (.int .i64 (a : Int)) (show p < w.heap.size by omega)).set ⟨w.heap.size, 1, none⟩ (.slice (some ⟨w1.heap.size, 0, none⟩) a a) (show p < w.heap.size by omega)).mono (show L + 4 + 4 * a + a * (2 * a) ≤ L + 400 by omega)
            have hD9 := (HD.out.set ⟨w.heap.size, 0, none⟩ (.int .i64 (a : Int)) (Nat.le_refl _)).set ⟨w.heap.size, 1, none⟩ (.slice (some ⟨w1.heap.size, 0, none⟩) a a) (Nat.le_refl _)
            exact ⟨some ⟨w1.heap.size, 0, none⟩, a, xs, by rw [HL.out], by rw [HL.out]; exact hO9, by rw [HL.out]; exact hn, fun k hk => HX.out k (by rw [HL.out] at hk; exact hk), hC9, hD9⟩

/-- four numbers that were written out -/
theorem rd_lit4 (w : World) (x0 x1 x2 x3 : Int) (t : TypeId) : Rd (w.alloc (.cells #[.int .i64 x0, .int .i64 x1, .int .i64 x2, .int .i64 x3] t)) (some ⟨w.heap.size, 0, none⟩) [x0, x1, x2, x3] :=
  ⟨by simp, fun k hk => ⟨w.heap.size, 0, rfl, by simp, by
    have : k = 0 ∨ k = 1 ∨ k = 2 ∨ k = 3 := by simp at hk; omega
    rcases this with rfl | rfl | rfl | rfl <;> simp [nth]⟩⟩
theorem lit4_small {n k : Nat} (hn : n ≤ 10) (hk : k < 4) : -1 ≤ nth [-1, 0, 1, IntKind.i64.wrap (2 ^ n)] k ∧ nth [-1, 0, 1, IntKind.i64.wrap (2 ^ n)] k ≤ 1024 := by
  have h1 : (2 : Int) ^ n ≤ 1024 ∧ 0 ≤ (2 : Int) ^ n := by
    have h := Nat.pow_le_pow_right (show 0 < 2 by omega) hn
    have e : ((2 ^ n : Nat) : Int) = (2 : Int) ^ n := by simp
    rw [← e]
    have h9 : (2 : Nat) ^ 10 = 1024 := by decide
    rw [h9] at h
    generalize 2 ^ n = z at h
    omega
  have h2 : IntKind.i64.wrap (2 ^ n) = 2 ^ n := wrap64_small _ (by omega) (by omega)
  rw [h2]
  have : k = 0 ∨ k = 1 ∨ k = 2 ∨ k = 3 := by omega
  rcases this with rfl | rfl | rfl | rfl <;> simp [nth] <;> omega
/-- an order, or something near one, that was drawn -/
def AnyO (w : World) (p L : Nat) (e : Ending) (w' : World) : Prop :=
  ∃ (n : Int) (a : Option Addr) (cap : Nat) (xs : List Int), e = .returned (.agg #[.int .i64 n, .slice a xs.length cap]) ∧ OwnI w' w.heap.size (.slice a xs.length cap) xs ∧ xs.length ≤ 10 ∧ -1 ≤ n ∧ n ≤ 11 ∧ (∀ k, k < xs.length → -1 ≤ nth xs k ∧ nth xs k ≤ 1024) ∧ Cur w' p L ∧ Drawn w w' p
theorem any_end {w W : World} {p L L' : Nat} {n : Int} {a : Option Addr} {c : Nat} {xs : List Int} (ho : OwnI W (w.heap.size + 1) (.slice a xs.length c) xs) (hl : xs.length ≤ 10) (h0 : -1 ≤ n) (h1 : n ≤ 11) (hx : ∀ k, k < xs.length → -1 ≤ nth xs k ∧ nth xs k ≤ 1024)
    (hc : Cur W p L) (hL : L ≤ L') (hp : p < w.heap.size) (hd : Drawn w W p) :
    AnyO w p L' (.returned (.agg #[.int .i64 n, .slice a xs.length c])) ((W.setCell ⟨w.heap.size, 0, none⟩ (.int .i64 n)).setCell ⟨w.heap.size, 1, none⟩ (.slice a xs.length c)) :=
  ⟨n, a, c, xs, rfl, ((ho.setBelow (p := ⟨w.heap.size, 0, none⟩) (show w.heap.size < w.heap.size + 1 by omega) _).setBelow (p := ⟨w.heap.size, 1, none⟩) (show w.heap.size < w.heap.size + 1 by omega) _).mono (by omega), hl, h0, h1, hx,
    ((hc.set ⟨w.heap.size, 0, none⟩ _ hp).set ⟨w.heap.size, 1, none⟩ _ hp).mono hL, (hd.set ⟨w.heap.size, 0, none⟩ _ (Nat.le_refl _)).set ⟨w.heap.size, 1, none⟩ _ (Nat.le_refl _)⟩
set_option maxRecDepth 100000 in
set_option maxHeartbeats 2000000 in
theorem anyOrder_any (p L m : Nat) (w : World) (h : Cur w p L) (hL : L ≤ 600000000) (hm : m ≤ 10) :
    Calls Try.prog 122 #[.pointer (some ⟨p, 0, none⟩), .int .i64 (m : Int)] w (AnyO w p (L + 1000)) := by
  have hpw := h.lt
  have ha : Below w.heap.size w (w.alloc (.cells #[.int .i64 0, .slice none 0 0] 28)) := (by repeat (first | exact Below.refl _ _ | assumption | refine Below.alloc ?_ (by first | exact Nat.le_refl _ | (simp only [World.size_alloc, World.size_setCell, World.size_drew]; omega) | omega) _ | refine Below.setCell ?_ (by first | exact Nat.le_refl _ | (simp only [World.size_alloc, World.size_setCell, World.size_drew]; omega) | omega) _ | refine Below.drew ?_))
  have H := Lib.hid (h.below ha)
  have HR := Lib.hid (Var2.new w (.int .i64 0) (.slice none 0 0) 28)
  clear h
  unfold AnyO
  go_enter Try.func122, Try.ntmps122
  go_wp2_with fail
  refine (order_any p L m _ H.out (by omega) hm).mono ?_
  rintro e w1 ⟨a1, c1, xs, rfl, ho1, hl1, hx1, hc1, hd1⟩
  have hs1 : w.heap.size + 1 ≤ w1.heap.size := by have := hd1.size; simpa using this
  have ba1 : Below w1.heap.size w1 (w1.alloc (.cells #[.int .i64 (xs.length : Int), .slice a1 xs.length c1] 28)) := (by repeat (first | exact Below.refl _ _ | assumption | refine Below.alloc ?_ (by first | exact Nat.le_refl _ | (simp only [World.size_alloc, World.size_setCell, World.size_drew]; omega) | omega) _ | refine Below.setCell ?_ (by first | exact Nat.le_refl _ | (simp only [World.size_alloc, World.size_setCell, World.size_drew]; omega) | omega) _ | refine Below.drew ?_))
  have hc1' := hc1.below ba1
  have HD1 := Lib.hid (hd1.of_alloc.below ba1)
  have HR1 := Lib.hid ((HR.out.drawn hd1 (by omega)).below ba1)
  have HO1 := Lib.hid ((ho1.mono (B' := w.heap.size + 1) (by simp)).below ba1 (Nat.le_refl _))
  have HB1 := Lib.hid (Var2.new w1 (.int .i64 (xs.length : Int)) (.slice a1 xs.length c1) 28)
  have HX1 := Lib.hid hx1
  have HC1 := Lib.hid hc1'
  have hgne : (Value.slice a1 xs.length c1).ownBlock = none ∨ (Value.slice a1 xs.length c1).ownBlock ≠ some w1.heap.size := by
    cases e : (Value.slice a1 xs.length c1).ownBlock with
    | none => exact .inl rfl
    | some g => exact .inr (by have := (ho1.lt g e).2; simp; omega)
  clear hc1 hc1' hd1 ho1 hx1 ba1 H HR
  go_wp2_with fail
  refine (pick_any p (L + 400) 14 _ HC1.out (by omega) (by omega)).mono ?_
  rintro e w2 ⟨r, rfl, hr0, hr1, hc2, hd2⟩
  have hs2 : w1.heap.size + 1 ≤ w2.heap.size := by have := hd2.size; simpa using this
  have HC2 := Lib.hid hc2
  have HD2 := Lib.hid (HD1.out.trans hd2)
  have HR2 := Lib.hid (HR1.out.drawn hd2 (by omega))
  have HO2 := Lib.hid (HO1.out.drawn hd2 (by omega))
  have HB2 := Lib.hid (HB1.out.drawn hd2 (by omega))
  have ⟨⟨zR, cR, dR⟩, fR, gR⟩ := HR2.out
  have ⟨⟨zB, cB, dB⟩, fB, gB⟩ := HB2.out
  clear hc2 hd2 HC1 HD1 HR1 HO1 HB1
  cases e0 : (r == 0)
  · cases e1 : (r == 1)
    · cases e2 : (r == 2)
      · cases e3 : (r == 3)
        · go_wp2_with fail
          have R3 := HR2.out.set (.int .i64 (xs.length : Int)) (.slice a1 xs.length c1)
          refine bodyPost_ret (v := .agg #[.int .i64 (xs.length : Int), .slice a1 xs.length c1]) (by have ⟨⟨_, q1, q2⟩, _, _⟩ := R3; simp [results, Try.results122, go_sem, q1, q2]) rfl ?_
          exact any_end HO2.out (by omega) (by omega) (by omega) (fun k hk => by have := HX1.out k hk; omega) HC2.out (by omega) hpw HD2.out
        · go_wp2_with fail
          refine (order_any p (L + 402) 10 _ HC2.out (by omega) (by omega)).mono ?_
          rintro e w3 ⟨a3, c3, ys, rfl, ho3, hl3, hx3, hc3, hd3⟩
          have hs3 := hd3.size
          have hR3 := HR2.out.drawn hd3 (by omega)
          have hD3 := HD2.out.trans hd3
          have ⟨⟨zR3, cR3, dR3⟩, fR3, gR3⟩ := hR3
          have HO3 := Lib.hid (ho3.mono (B' := w.heap.size + 1) (by omega))
          have HX3 := Lib.hid hx3
          have HR3 := Lib.hid hR3
          have HC3 := Lib.hid hc3
          have HD3 := Lib.hid hD3
          clear ho3 hx3 hR3 hD3 hc3 hd3
          go_wp2_with fail
          have R3 := HR3.out.set (.int .i64 (ys.length : Int)) (.slice a3 ys.length c3)
          refine bodyPost_ret (v := .agg #[.int .i64 (ys.length : Int), .slice a3 ys.length c3]) (by have ⟨⟨_, q1, q2⟩, _, _⟩ := R3; simp [results, Try.results122, go_sem, q1, q2]) rfl ?_
          exact any_end HO3.out (by omega) (by omega) (by omega) (fun k hk => by have := HX3.out k hk; omega) HC3.out (by omega) hpw HD3.out
      · by_cases hl0 : 0 < xs.length
        · have hl0' : (0 : Int) < (xs.length : Int) := by omega
          obtain ⟨g, rfl⟩ : ∃ g, a1 = some ⟨g, 0, none⟩ := by
            rcases HO2.out.2 with ⟨e, h⟩ | ⟨g, c, cur, e, _⟩
            · omega
            · simp only [Value.slice.injEq] at e
              exact ⟨g, e.1⟩
          have hg1 := HO2.out.lt g rfl
          have hg2 : g ≠ w1.heap.size := by
            rcases hgne with h | h
            · cases h
            · exact fun e => h (by rw [← e]; rfl)
          go_wp2_with fail
          go_region_held3 (fun w' => w'.cell? ⟨w1.heap.size, 0, none⟩ = some (.int .i64 (xs.length : Int)) ∧ w'.cell? ⟨w1.heap.size, 1, none⟩ = some (.slice (some ⟨g, 0, none⟩) xs.length c1))
            (first | exact ⟨QB.1.2.1, QB.1.2.2⟩ | exact ⟨QA.1.2.1, QA.1.2.2⟩ | go_keep)
            (first
              | (have _g := HP1; go_at_call 76; refine (among_any p (L + 404) (some ⟨wa.heap.size, 0, none⟩) [-1, 0, 1, IntKind.i64.wrap (2 ^ xs.length)] 4 4 _ (HCA.out.alloc _) (by omega) (rd_lit4 wa (-1) 0 1 _ _) rfl (by omega) (by omega) (fun b off e => (by simp only [Option.some.injEq, Addr.mk.injEq] at e; omega))).mono ?_; rintro e wb ⟨kk, hkk, rfl, hcb, hdb⟩; have QB := (QA.alloc (.cells #[.int .i64 (-1), .int .i64 0, .int .i64 1, .int .i64 (IntKind.i64.wrap (2 ^ xs.length))] 3)).drawn hdb (by omega); have QRB := Lib.hid ((QRA.out.alloc (.cells #[.int .i64 (-1), .int .i64 0, .int .i64 1, .int .i64 (IntKind.i64.wrap (2 ^ xs.length))] 3)).drawn hdb (by omega)); have HCB := Lib.hid hcb; have HDB := Lib.hid ((HDA.out.alloc (.cells #[.int .i64 (-1), .int .i64 0, .int .i64 1, .int .i64 (IntKind.i64.wrap (2 ^ xs.length))] 3)).trans hdb); have hob := (HOA.out.alloc (.cells #[.int .i64 (-1), .int .i64 0, .int .i64 1, .int .i64 (IntKind.i64.wrap (2 ^ xs.length))] 3)).drawn hdb (by omega); have HOB := Lib.hid hob; have ⟨cib, fib⟩ := hob.at' rfl (i := qn) hqn; clear hcb hdb hob)
              | (have _g := HP2; go_at_call 76; refine (among_any p (L + 404) (some ⟨w2.heap.size, 0, none⟩) [-1, 0, 1, IntKind.i64.wrap (2 ^ xs.length)] 4 4 _ HCA.out (by omega) HP2.out rfl (by omega) (by omega) (fun b off e => (by simp only [Option.some.injEq, Addr.mk.injEq] at e; omega))).mono ?_; rintro e wb ⟨kk, hkk, rfl, hcb, hdb⟩; have QB := QA.drawn hdb (by omega); have QRB := Lib.hid (QRA.out.drawn hdb (by omega)); have HCB := Lib.hid hcb; have HDB := Lib.hid (HDA.out.trans hdb); have hob := HOA.out.drawn hdb (by omega); have HOB := Lib.hid hob; have ⟨cib, fib⟩ := hob.at' rfl (i := qn) hqn; clear hcb hdb hob)
              | (have _g := HP2; go_at_call 76; refine (among_any p (L + 404) (some ⟨w2.heap.size, 0, none⟩) [-1, 0, 1, IntKind.i64.wrap (2 ^ xs.length)] 4 4 _ (HCA.out.below (Joins.below_draws _ _ _)) (by omega) (HP2.out.below (Joins.below_draws _ _ _)) rfl (by omega) (by omega) (fun b off e => (by simp only [Option.some.injEq, Addr.mk.injEq] at e; omega))).mono ?_; rintro e wb ⟨kk, hkk, rfl, hcb, hdb⟩; have QB := (QA.below (Joins.below_draws _ _ _)).drawn hdb (by omega); have QRB := Lib.hid ((QRA.out.below (Joins.below_draws _ _ _)).drawn hdb (by omega)); have HCB := Lib.hid hcb; have HDB := Lib.hid ((HDA.out.below (Joins.below_draws _ _ _)).trans hdb); have hob := (HOA.out.below (Joins.below_draws _ _ _) (Nat.le_refl _)).drawn hdb (by omega); have HOB := Lib.hid hob; have ⟨cib, fib⟩ := hob.at' rfl (i := qn) hqn; clear hcb hdb hob)
              | (go_at_call 75; refine (pick_any p (L + 402) (xs.length : Int) _ (HC2.out.below (Joins.below_draws _ _ _)) (by omega) (by omega)).mono ?_; rintro e wa ⟨q, rfl, hq0, hq1, hca, hda⟩; obtain ⟨qn, rfl⟩ := Int.eq_ofNat_of_zero_le hq0; have hqn : qn < xs.length := (by omega); have hqi : (qn : Int) < (xs.length : Int) := (by omega); have hsa : w2.heap.size ≤ wa.heap.size := (by have := hda.size; simp at this; omega); have HDA := Lib.hid ((HD2.out.below (Joins.below_draws _ _ _)).trans hda); have HOA := Lib.hid ((HO2.out.below (Joins.below_draws _ _ _) (Nat.le_refl _)).drawn hda (by omega)); have HCA := Lib.hid hca; have QA := (HB2.out.below (Joins.below_draws _ _ _)).drawn hda (by omega); have QRA := Lib.hid ((HR2.out.below (Joins.below_draws _ _ _)).drawn hda (by omega)); have HP1 := Lib.hid hsa; clear hca hda hq0 hq1)
              | (go_at_call 75; refine (pick_any p (L + 402) (xs.length : Int) _ (HC2.out.below ((Below.refl w2.heap.size w2).alloc (Nat.le_refl _) (.cells #[.int .i64 (-1), .int .i64 0, .int .i64 1, .int .i64 (IntKind.i64.wrap (2 ^ xs.length))] 3))) (by omega) (by omega)).mono ?_; rintro e wa ⟨q, rfl, hq0, hq1, hca, hda⟩; obtain ⟨qn, rfl⟩ := Int.eq_ofNat_of_zero_le hq0; have hqn : qn < xs.length := (by omega); have hqi : (qn : Int) < (xs.length : Int) := (by omega); have hsa : w2.heap.size ≤ wa.heap.size := (by have := hda.size; simp at this; omega); have HDA := Lib.hid ((HD2.out.below ((Below.refl w2.heap.size w2).alloc (Nat.le_refl _) (.cells #[.int .i64 (-1), .int .i64 0, .int .i64 1, .int .i64 (IntKind.i64.wrap (2 ^ xs.length))] 3))).trans hda); have HOA := Lib.hid ((HO2.out.below ((Below.refl w2.heap.size w2).alloc (Nat.le_refl _) (.cells #[.int .i64 (-1), .int .i64 0, .int .i64 1, .int .i64 (IntKind.i64.wrap (2 ^ xs.length))] 3)) (Nat.le_refl _)).drawn hda (by omega)); have HCA := Lib.hid hca; have QA := (HB2.out.below ((Below.refl w2.heap.size w2).alloc (Nat.le_refl _) (.cells #[.int .i64 (-1), .int .i64 0, .int .i64 1, .int .i64 (IntKind.i64.wrap (2 ^ xs.length))] 3))).drawn hda (by omega); have QRA := Lib.hid ((HR2.out.below ((Below.refl w2.heap.size w2).alloc (Nat.le_refl _) (.cells #[.int .i64 (-1), .int .i64 0, .int .i64 1, .int .i64 (IntKind.i64.wrap (2 ^ xs.length))] 3))).drawn hda (by omega)); have HP2 := Lib.hid (((rd_lit4 w2 (-1) 0 1 (IntKind.i64.wrap (2 ^ xs.length)) 3)).drawn hda (fun b off e => (by simp only [Option.some.injEq, Addr.mk.injEq] at e; omega))); clear hca hda hq0 hq1)
              | (go_at_call 75; refine (pick_any p (L + 402) (xs.length : Int) _ (HC2.out.below (((Below.refl w2.heap.size w2).alloc (Nat.le_refl _) (.cells #[.int .i64 (-1), .int .i64 0, .int .i64 1, .int .i64 (IntKind.i64.wrap (2 ^ xs.length))] 3)).trans (Joins.below_draws _ _ _))) (by omega) (by omega)).mono ?_; rintro e wa ⟨q, rfl, hq0, hq1, hca, hda⟩; obtain ⟨qn, rfl⟩ := Int.eq_ofNat_of_zero_le hq0; have hqn : qn < xs.length := (by omega); have hqi : (qn : Int) < (xs.length : Int) := (by omega); have hsa : w2.heap.size ≤ wa.heap.size := (by have := hda.size; simp at this; omega); have HDA := Lib.hid ((HD2.out.below (((Below.refl w2.heap.size w2).alloc (Nat.le_refl _) (.cells #[.int .i64 (-1), .int .i64 0, .int .i64 1, .int .i64 (IntKind.i64.wrap (2 ^ xs.length))] 3)).trans (Joins.below_draws _ _ _))).trans hda); have HOA := Lib.hid ((HO2.out.below (((Below.refl w2.heap.size w2).alloc (Nat.le_refl _) (.cells #[.int .i64 (-1), .int .i64 0, .int .i64 1, .int .i64 (IntKind.i64.wrap (2 ^ xs.length))] 3)).trans (Joins.below_draws _ _ _)) (Nat.le_refl _)).drawn hda (by omega)); have HCA := Lib.hid hca; have QA := (HB2.out.below (((Below.refl w2.heap.size w2).alloc (Nat.le_refl _) (.cells #[.int .i64 (-1), .int .i64 0, .int .i64 1, .int .i64 (IntKind.i64.wrap (2 ^ xs.length))] 3)).trans (Joins.below_draws _ _ _))).drawn hda (by omega); have QRA := Lib.hid ((HR2.out.below (((Below.refl w2.heap.size w2).alloc (Nat.le_refl _) (.cells #[.int .i64 (-1), .int .i64 0, .int .i64 1, .int .i64 (IntKind.i64.wrap (2 ^ xs.length))] 3)).trans (Joins.below_draws _ _ _))).drawn hda (by omega)); have HP2 := Lib.hid (((rd_lit4 w2 (-1) 0 1 (IntKind.i64.wrap (2 ^ xs.length)) 3).below (Joins.below_draws _ _ _)).drawn hda (fun b off e => (by simp only [Option.some.injEq, Addr.mk.injEq] at e; omega))); clear hca hda hq0 hq1))
          all_goals
            have hz0 : -1 ≤ nth [-1, 0, 1, IntKind.i64.wrap (2 ^ xs.length)] kk ∧ nth [-1, 0, 1, IntKind.i64.wrap (2 ^ xs.length)] kk ≤ 1024 := lit4_small (show xs.length ≤ 10 by omega) hkk
            have hsb := HDB.out.size
            generalize nth [-1, 0, 1, IntKind.i64.wrap (2 ^ xs.length)] kk = z at hz0
            have hput := HOB.out.put rfl qn z
            have HP := Lib.hid hput
            have hQ : Hid (Var2 (wb.setCell ⟨g, qn, none⟩ (.int .i64 z)) w.heap.size (.int .i64 0) (.slice none 0 0)) := QRB.out.other (p := ⟨g, qn, none⟩) _ (show w.heap.size ≠ g by omega)
            have hQb := QB.other (p := ⟨g, qn, none⟩) (.int .i64 z) (show w1.heap.size ≠ g from fun e => hg2 e.symm)
            have ⟨⟨zR3, cR3, dR3⟩, fR3, gR3⟩ := hQ.out
            have ⟨⟨zB3, cB3, dB3⟩, fB3, gB3⟩ := hQb
            have HL9 : Hid ((xs.set qn z).length = xs.length) := by simp [Hid]
            have HX9 : Hid (∀ k, k < (xs.set qn z).length → -1 ≤ nth (xs.set qn z) k ∧ nth (xs.set qn z) k ≤ 1024) := fun j hj => by
              rw [nth_set hqn]
              split
              · exact hz0
              · have := HX1.out j (by simpa using hj); omega
            clear hput
            go_wp2_with fail
            have R3 := hQ.out.set (.int .i64 (xs.length : Int)) (.slice (some ⟨g, 0, none⟩) xs.length c1)
            refine bodyPost_ret (v := .agg #[.int .i64 (xs.length : Int), .slice (some ⟨g, 0, none⟩) xs.length c1]) (by have ⟨⟨_, q1, q2⟩, _, _⟩ := R3; simp [results, Try.results122, go_sem, q1, q2]) rfl ?_
            have h9 := any_end (p := p) (L := L + 406) (L' := L + 1000) (n := (xs.length : Int)) (W := wb.setCell ⟨g, qn, none⟩ (.int .i64 z)) (a := some ⟨g, 0, none⟩) (c := c1) (xs := xs.set qn z) (w := w) (by rw [HL9.out]; exact HP.out.1) (by rw [HL9.out]; omega) (by omega) (by omega) HX9.out (HCB.out.set ⟨g, qn, none⟩ _ (show p < g by omega)) (by omega) hpw (HDB.out.set ⟨g, qn, none⟩ _ (show w.heap.size ≤ g by omega))
            rw [HL9.out] at h9
            exact h9
        · have hl0' : ¬ ((0 : Int) < (xs.length : Int)) := by omega
          go_wp2_with fail
          have R3 := HR2.out.set (.int .i64 (xs.length : Int)) (.slice a1 xs.length c1)
          refine bodyPost_ret (v := .agg #[.int .i64 (xs.length : Int), .slice a1 xs.length c1]) (by have ⟨⟨_, q1, q2⟩, _, _⟩ := R3; simp [results, Try.results122, go_sem, q1, q2]) rfl ?_
          exact any_end HO2.out (by omega) (by omega) (by omega) (fun k hk => by have := HX1.out k hk; omega) HC2.out (by omega) hpw HD2.out
    · have ba2 : Below w2.heap.size w2 (w2.alloc (.cells #[.int .i64 (-1), .int .i64 0, .int .i64 10, .int .i64 11] 3)) := (by repeat (first | exact Below.refl _ _ | assumption | refine Below.alloc ?_ (by first | exact Nat.le_refl _ | (simp only [World.size_alloc, World.size_setCell, World.size_drew]; omega) | omega) _ | refine Below.setCell ?_ (by first | exact Nat.le_refl _ | (simp only [World.size_alloc, World.size_setCell, World.size_drew]; omega) | omega) _ | refine Below.drew ?_))
      go_wp2_with fail
      refine (among_any p (L + 402) (some ⟨w2.heap.size, 0, none⟩) [-1, 0, 10, 11] 4 4 _ (HC2.out.below ba2) (by omega) (rd_lit4 w2 (-1) 0 10 11 _) rfl (by omega) (by omega) (fun b off e => by simp only [Option.some.injEq, Addr.mk.injEq] at e; omega)).mono ?_
      rintro e w3 ⟨k, hk, rfl, hc3, hd3⟩
      have hn0 : -1 ≤ nth [-1, 0, 10, 11] k ∧ nth [-1, 0, 10, 11] k ≤ 11 := by
        have : k = 0 ∨ k = 1 ∨ k = 2 ∨ k = 3 := by omega
        rcases this with rfl | rfl | rfl | rfl <;> simp [nth]
      generalize nth [-1, 0, 10, 11] k = z at hn0
      have hs3 : w2.heap.size + 1 ≤ w3.heap.size := by have := hd3.size; simpa using this
      have hR3 := (HR2.out.below ba2).drawn hd3 (by omega)
      have hB3 := (HB2.out.below ba2).drawn hd3 (by omega)
      have hO3 := (HO2.out.below ba2 (Nat.le_refl _)).drawn hd3 (by omega)
      have hD3 := (HD2.out.below ba2).trans hd3
      have ⟨⟨zR3, cR3, dR3⟩, fR3, gR3⟩ := hR3
      have ⟨⟨zB3, cB3, dB3⟩, fB3, gB3⟩ := hB3
      have HO3 := Lib.hid hO3
      have HR3 := Lib.hid hR3
      have HB3 := Lib.hid hB3
      have HC3 := Lib.hid hc3
      have HD3 := Lib.hid hD3
      clear hO3 hR3 hB3 hD3 hc3 hd3
      have HRb := Lib.hid (HR3.out.other (p := ⟨w1.heap.size, 0, none⟩) (.int .i64 z) (show w.heap.size ≠ w1.heap.size by omega))
      have HOb := Lib.hid (HO3.out.kept (grown_set w3 ⟨w1.heap.size, 0, none⟩ (.int .i64 z)) hgne)
      go_wp2_with fail
      have R3 := HRb.out.set (.int .i64 z) (.slice a1 xs.length c1)
      refine bodyPost_ret (v := .agg #[.int .i64 z, .slice a1 xs.length c1]) (by have ⟨⟨_, q1, q2⟩, _, _⟩ := R3; simp [results, Try.results122, go_sem, q1, q2]) rfl ?_
      exact any_end HOb.out (by omega) (by omega) (by omega) (fun k hk => by have := HX1.out k hk; omega) (HC3.out.set ⟨w1.heap.size, 0, none⟩ _ (show p < w1.heap.size by omega)) (by omega) hpw (HD3.out.set ⟨w1.heap.size, 0, none⟩ _ (show w.heap.size ≤ w1.heap.size by omega))
  · go_wp2_with fail
    refine (relation_any p (L + 402) m _ HC2.out (by omega) (by omega)).mono ?_
    rintro e w3 ⟨a3, c3, ys, rfl, ho3, hl3, hx3, hc3, hd3⟩
    have hs3 := hd3.size
    have hR3 := HR2.out.drawn hd3 (by omega)
    have hD3 := HD2.out.trans hd3
    have ⟨⟨zR3, cR3, dR3⟩, fR3, gR3⟩ := hR3
    have HO3 := Lib.hid (ho3.mono (B' := w.heap.size + 1) (by omega))
    have HX3 := Lib.hid hx3
    have HR3 := Lib.hid hR3
    have HC3 := Lib.hid hc3
    have HD3 := Lib.hid hD3
    clear ho3 hx3 hR3 hD3 hc3 hd3
    go_wp2_with fail
    have R3 := HR3.out.set (.int .i64 (ys.length : Int)) (.slice a3 ys.length c3)
    refine bodyPost_ret (v := .agg #[.int .i64 (ys.length : Int), .slice a3 ys.length c3]) (by have ⟨⟨_, q1, q2⟩, _, _⟩ := R3; simp [results, Try.results122, go_sem, q1, q2]) rfl ?_
    exact any_end HO3.out (by omega) (by omega) (by omega) (fun k hk => by have := HX3.out k hk; omega) HC3.out (by omega) hpw HD3.out

/-- an order that a law draws -/
def DrawnO (w : World) (e : Ending) (w' : World) : Prop :=
  ∃ (n : Int) (a : Option Addr) (cap : Nat) (xs : List Int), e = .returned (.agg #[.int .i64 n, .slice a xs.length cap]) ∧ OwnI w' w.heap.size (.slice a xs.length cap) xs ∧ xs.length ≤ 10 ∧ -1 ≤ n ∧ n ≤ 11 ∧ (∀ k, k < xs.length → -1 ≤ nth xs k ∧ nth xs k ≤ 1024) ∧ Below w.heap.size w w'
theorem cur_new {w : World} {a : Option Addr} {n cap : Nat} {t : TypeId} (hR : RdB w a n) (hn : n ≤ 1048576) : Cur (w.alloc (.cells #[.slice a n cap, .int .i64 0, .int .u64 0] t)) w.heap.size 0 :=
  ⟨a, n, cap, 0, 0, Var3.new w _ _ _ t, by omega, by omega, hn, hR.below ((Below.refl _ _).alloc (Nat.le_refl _) _), fun h0 b off e => by
    obtain ⟨b', off', e', hl, _⟩ := hR.cell 0 h0
    rw [e] at e'
    simp only [Option.some.injEq, Addr.mk.injEq] at e'
    omega⟩

/-- one pair more at the end of a row of pairs that is owned -/
theorem push_iv {ops : Array Oper} {rest : List Oper} {o : Oper} {a : Act} {Q : Exit → Act → World → Prop} (hgd : o.guard = none) (s x : Operand)
    (ho : o.op = .call { callee := .builtin .append, args := #[s, x], argTypes := #[24, 24] }) {wr : World} {B n : Nat} {v : Value} {cs : List Int} {l r : Int} {g : Nat}
    (hs : a.eval s = v) (hx : a.eval x = .slice (some ⟨g, 0, none⟩) 1 1) (hown : OwnV wr B v n cs) (hgz : wr.heap.size = g) (h63 : n ≤ 1048576) (hB : B ≤ wr.heap.size)
    (h : ∀ v' w', OwnV w' B v' (n + 1) (cs ++ [l, r]) → wr.grownBy w' v.ownBlock → (v'.ownBlock = v.ownBlock ∨ v'.ownBlock = some (g + 1)) → wpList Try.prog ops Q rest (a.put o.dst v') w') :
    wpList Try.prog ops Q (o :: rest) a (wr.alloc (.cells #[.int .i64 l, .int .i64 r] 40)) := by
  subst hgz
  obtain ⟨i0, hi, hz0, hz1, hz2⟩ := info_parts infoIv
  refine wpList_append_own_at _ hgd s x 24 ho B 40 i0 (.agg #[.int .i64 0, .int .i64 0]) 2 16 Try.underlying24 hi hz0 hz1 hz2 rfl (by decide) v n (cs.map (Value.int .i64)) hs (hown.alloc _) ⟨wr.heap.size, 0, none⟩ 1 1 [.int .i64 l, .int .i64 r] hx rfl (cell_two_new _ _ _ _) (two_one _ _) (by unfold maxLen; omega) (by omega) (by simp; omega) ?_
  intro v' w' ho2 hg _ hat
  refine h v' w' ?_ (grown_alloc_set hg) (by simpa using hat)
  unfold OwnV
  rw [List.map_append]
  exact ho2

/-- three numbers that were written out -/
theorem rd_lit3 (w : World) (x0 x1 x2 : Int) (t : TypeId) : Rd (w.alloc (.cells #[.int .i64 x0, .int .i64 x1, .int .i64 x2] t)) (some ⟨w.heap.size, 0, none⟩) [x0, x1, x2] :=
  ⟨by simp, fun k hk => ⟨w.heap.size, 0, rfl, by simp, by
    have : k = 0 ∨ k = 1 ∨ k = 2 := by simp at hk; omega
    rcases this with rfl | rfl | rfl <;> simp [nth]⟩⟩
theorem pow_small {q : Nat} (h : q ≤ 10) : IntKind.i64.wrap (2 ^ q) = 2 ^ q ∧ (2 : Int) ^ q ≤ 1024 ∧ 1 ≤ (2 : Int) ^ q := by
  have h1 := pow10 h
  exact ⟨wrap64_small _ (by omega) (by omega), h1.2, h1.1⟩

theorem OwnV.drawn {w w' : World} {p B n : Nat} {v : Value} {cs : List Int} (h : OwnV w B v n cs) (hd : Drawn w w' p) (hp : p < B) : OwnV w' B v n cs :=
  h.kept hd (by
    cases e : v.ownBlock with
    | none => exact .inl rfl
    | some c => exact .inr (by have := (h.lt c e).1; simp; omega))
/-- numbers that may be ends, or beside -/
def Ends (cs : List Int) : Prop := ∀ k, k < cs.length → -1001 ≤ nth cs k ∧ nth cs k ≤ 1001
theorem ends_nil : Ends [] := fun k hk => by simp at hk
theorem ends_two {cs : List Int} {l r : Int} (h : Ends cs) (h1 : -1001 ≤ l ∧ l ≤ 1001) (h2 : -1001 ≤ r ∧ r ≤ 1001) : Ends (cs ++ [l, r]) := fun k hk => by
  simp only [nth, List.getD_eq_getElem?_getD]
  by_cases e : k < cs.length
  · rw [List.getElem?_append_left e]
    have := h k e
    simpa [nth, List.getD_eq_getElem?_getD] using this
  · rw [List.getElem?_append_right (by omega)]
    have : k - cs.length = 0 ∨ k - cs.length = 1 := by simp at hk; omega
    rcases this with e2 | e2 <;> rw [e2] <;> simp <;> assumption
def lenS : Value → Nat
  | .slice _ n _ => n
  | _ => 0
set_option maxRecDepth 100000 in
set_option maxHeartbeats 2000000 in
theorem intervals_any (p L m : Nat) (w : World) (h : Cur w p L) (hL : L ≤ 600000000) (hm : m ≤ 10) :
    Calls Try.prog 61 #[.pointer (some ⟨p, 0, none⟩), .int .i64 (m : Int)] w fun e w' => ∃ (a : Option Addr) (cap n : Nat) (cs : List Int), e = .returned (.slice a n cap) ∧ OwnV w' w.heap.size (.slice a n cap) n cs ∧ n ≤ 12 ∧ Ends cs ∧ Cur w' p (L + 200) ∧ Drawn w w' p := by
  have hpw := h.lt
  have H := Lib.hid h
  clear h
  go_enter Try.func61, Try.ntmps61
  go_wp2_with fail
  refine (pick_any p L ((m : Int) + 1) _ H.out (by omega) (by omega)).mono ?_
  rintro e w1 ⟨r, rfl, hr0, hr1, hc1, hd1⟩
  obtain ⟨n, rfl⟩ := Int.eq_ofNat_of_zero_le hr0
  have hn : n ≤ m := by omega
  have HC1 := Lib.hid hc1
  have HD1 := Lib.hid hd1
  clear hc1 hd1 hr0 hr1
  go_wp2_with fail
  go_loopw [5, 6] (fun v i wr => ∃ (k : Nat) (a : Option Addr) (cap : Nat) (cs : List Int), k ≤ n ∧ i = .int .i64 ((n - k : Nat) : Int) ∧ v = .slice a k cap ∧ OwnV wr w.heap.size (.slice a k cap) k cs ∧ Ends cs ∧ Cur wr p (L + 2 + 4 * k) ∧ Drawn w wr p) (fun _ i _ => (intOf i).toNat)
  case atStart => exact ⟨0, none, 0, [], Nat.zero_le _, rfl, rfl, OwnV.nil _ _, ends_nil, HC1.out, HD1.out⟩
  case round =>
    obtain ⟨k, a, cap, cs, hk, rfl, rfl, ho, he, hc, hd⟩ := hrel
    have HE := Lib.hid he
    have HO := Lib.hid ho
    have HC := Lib.hid hc
    have HD := Lib.hid hd
    clear he ho hc hd
    by_cases hlt : k < n
    · have k1 : (0 : Int) < ((n - k : Nat) : Int) := by omega
      go_wp2_with fail
      refine (pick_any p (L + 2 + 4 * k) 8 _ HC.out (by omega) (by omega)).mono ?_
      rintro e w2 ⟨x, rfl, hx0, hx1, hc2, hd2⟩
      have HC2 := Lib.hid hc2
      have HD2 := Lib.hid (HD.out.trans hd2)
      have HO2 := Lib.hid (HO.out.drawn hd2 hpw)
      clear hc2 hd2
      go_wp2_with fail
      refine (pick_any p (L + 2 + 4 * k + 2) 4 _ HC2.out (by omega) (by omega)).mono ?_
      rintro e w3 ⟨y, rfl, hy0, hy1, hc3, hd3⟩
      have HC3 := Lib.hid hc3
      have HD3 := Lib.hid (HD2.out.trans hd3)
      have HO3 := Lib.hid (HO2.out.drawn hd3 hpw)
      have hs3 := HD3.out.size
      clear hc3 hd3
      go_wp2_with (at_builtin; refine push_iv (wr := w3) (v := .slice a k cap) (n := k) rfl _ _ rfl rfl rfl HO3.out (by simp) (by omega) hs3 ?_; intro v5 w5 o5 hg5 hat5; revert hat5)
      intro hat5
      have hd5 := HD3.out.grown hg5 (fun c e => (HO3.out.lt c e).1)
      have hc5 := HC3.out.kept hg5 (fun g e => by have := (HO3.out.lt g e).1; omega)
      obtain ⟨av5, cv5, ev5⟩ := o5.form
      subst ev5
      clear hat5 hg5
      go_wp2_with fail
      go_roundw
      case rel => exact ⟨k + 1, av5, cv5, _, by omega, by rw [show n - k = (n - (k + 1)) + 1 by omega]; go_num, rfl, o5, ends_two HE.out (by omega) (by omega), hc5.mono (by omega), hd5⟩
      case measure => simp [intOf]; omega
    · obtain rfl : k = n := by omega
      have e0 : k - k = 0 := by omega
      rw [e0]
      go_wp2_with fail
      refine (pick_any p (L + 2 + 4 * k) 14 _ HC.out (by omega) (by omega)).mono ?_
      rintro e w2 ⟨x, rfl, hx0, hx1, hc2, hd2⟩
      have HC2 := Lib.hid hc2
      have HD2 := Lib.hid (HD.out.trans hd2)
      have HO2 := Lib.hid (HO.out.drawn hd2 hpw)
      clear hc2 hd2
      by_cases h0 : x = 0
      · subst h0
        go_wp2_with fail
        refine (among_any p (L + 2 + 4 * k + 2) (some ⟨w2.heap.size, 0, none⟩) [-1001, -1000, 1, 1000] 4 4 _ (HC2.out.alloc _) (by omega) (rd_lit4 w2 _ _ _ _ _) rfl (by omega) (by omega) (fun b off e => by simp only [Option.some.injEq, Addr.mk.injEq] at e; have := HC2.out.lt; omega)).mono ?_
        rintro e w3 ⟨kk, hkk, rfl, hc3, hd3⟩
        have hz3 : -1001 ≤ nth [-1001, -1000, 1, 1000] kk ∧ nth [-1001, -1000, 1, 1000] kk ≤ 1001 := by
          have : kk = 0 ∨ kk = 1 ∨ kk = 2 ∨ kk = 3 := by omega
          rcases this with rfl | rfl | rfl | rfl <;> simp [nth]
        generalize nth [-1001, -1000, 1, 1000] kk = z3 at hz3
        have hd3' := hd3.of_alloc
        have HC3 := Lib.hid hc3
        have HD3 := Lib.hid (HD2.out.trans hd3')
        have HO3 := Lib.hid (HO2.out.drawn hd3' hpw)
        clear hc3 hd3 hd3'
        go_wp2_with fail
        refine (among_any p (L + 2 + 4 * k + 2 + 2) (some ⟨w3.heap.size, 0, none⟩) [0, 1000, 1001] 3 3 _ (HC3.out.alloc _) (by omega) (rd_lit3 w3 _ _ _ _) rfl (by omega) (by omega) (fun b off e => by simp only [Option.some.injEq, Addr.mk.injEq] at e; have := HC3.out.lt; omega)).mono ?_
        rintro e w4 ⟨kk, hkk, rfl, hc4, hd4⟩
        have hz4 : -1001 ≤ nth [0, 1000, 1001] kk ∧ nth [0, 1000, 1001] kk ≤ 1001 := by
          have : kk = 0 ∨ kk = 1 ∨ kk = 2 := by omega
          rcases this with rfl | rfl | rfl <;> simp [nth]
        generalize nth [0, 1000, 1001] kk = z4 at hz4
        have hd4' := hd4.of_alloc
        have HC4 := Lib.hid hc4
        have HD4 := Lib.hid (HD3.out.trans hd4')
        have HO4 := Lib.hid (HO3.out.drawn hd4' hpw)
        have hs4 := HD4.out.size
        clear hc4 hd4 hd4'
        go_wp2_with (at_builtin; refine push_iv (wr := w4) (v := .slice a k cap) (n := k) rfl _ _ rfl rfl rfl HO4.out (by simp) (by omega) hs4 ?_; intro v5 w5 o5 hg5 hat5; revert hat5)
        intro hat5
        have hd5 := HD4.out.grown hg5 (fun c e => (HO4.out.lt c e).1)
        have hc5 := HC4.out.kept hg5 (fun g e => by have := (HO4.out.lt g e).1; omega)
        obtain ⟨av5, cv5, ev5⟩ := o5.form
        subst ev5
        clear hat5 hg5
        go_wp2_with fail
        go_ret
        exact ⟨av5, cv5, k + 1, _, rfl, o5, by omega, ends_two HE.out hz3 hz4, hc5.mono (by omega), hd5⟩
      · by_cases h1 : x = 1
        · subst h1
          have hks : k ≤ 10 := by omega
          go_wp2_with fail
          go_loopw [5] (fun v wr => ∃ (q : Nat) (a : Option Addr) (cap : Nat) (cs : List Int), q ≤ 11 ∧ v = .slice a q cap ∧ OwnV wr w.heap.size (.slice a q cap) q cs ∧ Ends cs ∧ Cur wr p (L + 60 + 2 * q) ∧ Drawn w wr p) (fun v _ => 12 - lenS v)
          case atStart => exact ⟨0, none, 0, [], by omega, rfl, OwnV.nil _ _, ends_nil, HC2.out.mono (by omega), HD2.out⟩
          case round =>
            obtain ⟨q, a9, cap9, cs9, hq, rfl, ho, he, hc, hd⟩ := hrel
            have HE9 := Lib.hid he
            have HO9 := Lib.hid ho
            have HC9 := Lib.hid hc
            have HD9 := Lib.hid hd
            clear he ho hc hd
            go_wp2_with fail
            refine (pick_any p (L + 60 + 2 * q) 2 _ HC9.out (by omega) (by omega)).mono ?_
            rintro e w3 ⟨y, rfl, hy0, hy1, hc3, hd3⟩
            have HC3 := Lib.hid hc3
            have HD3 := Lib.hid (HD9.out.trans hd3)
            have HO3 := Lib.hid (HO9.out.drawn hd3 hpw)
            have hs3 := HD3.out.size
            clear hc3 hd3
            by_cases hqy : (q : Int) < 10 + y
            · go_wp2_with (at_builtin; refine push_iv (wr := w3) (v := .slice a9 q cap9) (n := q) rfl _ _ rfl rfl rfl HO3.out (by simp) (by omega) hs3 ?_; intro v5 w5 o5 hg5 hat5; revert hat5)
              intro hat5
              have hd5 := HD3.out.grown hg5 (fun c e => (HO3.out.lt c e).1)
              have hc5 := HC3.out.kept hg5 (fun g e => by have := (HO3.out.lt g e).1; omega)
              obtain ⟨av5, cv5, ev5⟩ := o5.form
              subst ev5
              clear hat5 hg5
              go_wp2_with fail
              go_roundw
              case rel => exact ⟨q + 1, av5, cv5, _, by omega, rfl, o5, ends_two HE9.out (by omega) (by omega), hc5.mono (by omega), hd5⟩
              case measure => simp [lenS]; omega
            · go_wp2_with fail
              go_ret
              exact ⟨a9, cap9, q, cs9, rfl, HO3.out, by omega, HE9.out, HC3.out.mono (by omega), HD3.out⟩
        · have hx0' : (x == 0) = false := by simpa using h0
          have hx1' : (x == 1) = false := by simpa using h1
          go_wp2_with fail
          go_ret
          exact ⟨a, cap, k, cs, rfl, HO2.out, by omega, HE.out, HC2.out.mono (by omega), HD2.out⟩

theorem lit4_any (x0 x1 x2 x3 : Int) {k : Nat} (hk : k < 4) {lo hi : Int} (h0 : lo ≤ x0 ∧ x0 ≤ hi) (h1 : lo ≤ x1 ∧ x1 ≤ hi) (h2 : lo ≤ x2 ∧ x2 ≤ hi) (h3 : lo ≤ x3 ∧ x3 ≤ hi) : lo ≤ nth [x0, x1, x2, x3] k ∧ nth [x0, x1, x2, x3] k ≤ hi := by
  have : k = 0 ∨ k = 1 ∨ k = 2 ∨ k = 3 := by omega
  rcases this with rfl | rfl | rfl | rfl <;> simp [nth] <;> omega
/-- intervals and two numbers that a law draws -/
def DrawnVii (w : World) (e : Ending) (w' : World) : Prop :=
  ∃ (n : Nat) (a : Option Addr) (cap : Nat) (cs : List Int) (x y : Int), e = .returned (.tuple #[.slice a n cap, .int .i64 x, .int .i64 y]) ∧ OwnV w' w.heap.size (.slice a n cap) n cs ∧ n ≤ 12 ∧ Ends cs ∧ (-1001 ≤ x ∧ x ≤ 1001) ∧ (-1001 ≤ y ∧ y ≤ 1001) ∧ Below w.heap.size w w'
set_option maxRecDepth 100000 in
set_option maxHeartbeats 1000000 in
theorem drStretch_any (a : Option Addr) (n cap : Nat) (w : World) (hR : RdB w a n) (hn : n ≤ 1048576) :
    Calls Try.prog 20 #[.slice a n cap] w (DrawnVii w) := by
  go_enter Try.func20, Try.ntmps20
  go_wp2_with fail
  have hcur := cur_new (w := w) (cap := cap) (t := 83) hR hn
  refine (pick_any w.heap.size 0 9 _ hcur (by omega) (by omega)).mono ?_
  rintro e w1 ⟨x, rfl, hx0, hx1, hc1, hd1⟩
  have HC1 := Lib.hid hc1
  have HB1 : Hid (Below w.heap.size w w1) := hd1.of_alloc.bel (Nat.le_refl _) (Nat.le_refl _)
  clear hc1 hd1 hcur
  go_wp2_with fail
  refine (pick_any w.heap.size 2 5 _ HC1.out (by omega) (by omega)).mono ?_
  rintro e w2 ⟨y, rfl, hy0, hy1, hc2, hd2⟩
  have er : IntKind.i64.wrap (x - 1) = x - 1 := wrap64_small _ (by omega) (by omega)
  have HC2 := Lib.hid hc2
  have HB2 := Lib.hid (HB1.out.trans (hd2.bel (Nat.le_refl _) HB1.out.size))
  clear hc2 hd2 HB1 HC1
  go_wp2_with fail
  refine (pick_any w.heap.size 4 10 _ HC2.out (by omega) (by omega)).mono ?_
  rintro e w3 ⟨z, rfl, hz0, hz1, hc3, hd3⟩
  have HC3 := Lib.hid hc3
  have HB3 := Lib.hid (HB2.out.trans (hd3.bel (Nat.le_refl _) HB2.out.size))
  have hs3 := HC3.out.lt
  clear hc3 hd3 HB2 HC2
  have ba : ∀ a b c d : Value, Below w3.heap.size w3 (w3.alloc (.cells #[a, b, c, d] 3)) := fun a b c d => (Below.refl _ _).alloc (Nat.le_refl _) _
  by_cases h0 : z = 0
  · subst h0
    go_wp2_with fail
    refine (among_any w.heap.size 6 (some ⟨w3.heap.size, 0, none⟩) [-1001, -1000, 1000, 1001] 4 4 _ (HC3.out.below (ba _ _ _ _)) (by omega) (rd_lit4 w3 (-1001) (-1000) 1000 1001 _) rfl (by omega) (by omega) (fun b off e => by simp only [Option.some.injEq, Addr.mk.injEq] at e; omega)).mono ?_
    rintro e w4 ⟨k, hk, rfl, hc4, hd4⟩
    have hx := lit4_any (-1001) (-1000) 1000 1001 hk (lo := -1001) (hi := 1001) (by omega) (by omega) (by omega) (by omega)
    generalize nth [-1001, -1000, 1000, 1001] k = x2 at hx
    have HC4 := Lib.hid hc4
    have HB4 := Lib.hid (HB3.out.trans (hd4.of_alloc.bel (Nat.le_refl _) HB3.out.size))
    clear hc4 hd4 ba
    go_wp2_with fail
    refine (intervals_any w.heap.size 8 7 _ HC4.out (by omega) (by omega)).mono ?_
    rintro e w5 ⟨a5, c5, n5, cs, rfl, ho5, hn5, he5, hc5, hd5⟩
    have HO5 := Lib.hid (ho5.mono HB4.out.size)
    have HB5 := Lib.hid (HB4.out.trans (hd5.bel (Nat.le_refl _) HB4.out.size))
    clear ho5 hc5 hd5
    go_wp2_with fail
    refine bodyPost_ret (v := .tuple #[.slice a5 n5 c5, .int .i64 x2, .int .i64 y]) (by simp [results, Try.results20, go_sem]) rfl ?_
    exact ⟨n5, a5, c5, cs, x2, y, rfl, HO5.out, hn5, he5, hx, by omega, HB5.out⟩
  · have z0 : (z == 0) = false := by simpa using h0
    by_cases h1 : z = 1
    · subst h1
      go_wp2_with fail
      refine (among_any w.heap.size 6 (some ⟨w3.heap.size, 0, none⟩) [-1, 990, 1000, 1001] 4 4 _ (HC3.out.below (ba _ _ _ _)) (by omega) (rd_lit4 w3 (-1) 990 1000 1001 _) rfl (by omega) (by omega) (fun b off e => by simp only [Option.some.injEq, Addr.mk.injEq] at e; omega)).mono ?_
      rintro e w4 ⟨k, hk, rfl, hc4, hd4⟩
      have hx := lit4_any (-1) 990 1000 1001 hk (lo := -1001) (hi := 1001) (by omega) (by omega) (by omega) (by omega)
      generalize nth [-1, 990, 1000, 1001] k = x2 at hx
      have HC4 := Lib.hid hc4
      have HB4 := Lib.hid (HB3.out.trans (hd4.of_alloc.bel (Nat.le_refl _) HB3.out.size))
      clear hc4 hd4 ba
      go_wp2_with fail
      refine (intervals_any w.heap.size 8 7 _ HC4.out (by omega) (by omega)).mono ?_
      rintro e w5 ⟨a5, c5, n5, cs, rfl, ho5, hn5, he5, hc5, hd5⟩
      have HO5 := Lib.hid (ho5.mono HB4.out.size)
      have HB5 := Lib.hid (HB4.out.trans (hd5.bel (Nat.le_refl _) HB4.out.size))
      clear ho5 hc5 hd5
      go_wp2_with fail
      refine bodyPost_ret (v := .tuple #[.slice a5 n5 c5, .int .i64 (x - 1), .int .i64 x2]) (by simp [results, Try.results20, go_sem]) rfl ?_
      exact ⟨n5, a5, c5, cs, x - 1, x2, rfl, HO5.out, hn5, he5, by omega, hx, HB5.out⟩
    · have z1 : (z == 1) = false := by simpa using h1
      clear ba
      go_wp2_with fail
      refine (intervals_any w.heap.size 6 7 _ HC3.out (by omega) (by omega)).mono ?_
      rintro e w5 ⟨a5, c5, n5, cs, rfl, ho5, hn5, he5, hc5, hd5⟩
      have HO5 := Lib.hid (ho5.mono HB3.out.size)
      have HB5 := Lib.hid (HB3.out.trans (hd5.bel (Nat.le_refl _) HB3.out.size))
      clear ho5 hc5 hd5
      go_wp2_with fail
      refine bodyPost_ret (v := .tuple #[.slice a5 n5 c5, .int .i64 (x - 1), .int .i64 y]) (by simp [results, Try.results20, go_sem]) rfl ?_
      exact ⟨n5, a5, c5, cs, x - 1, y, rfl, HO5.out, hn5, he5, by omega, by omega, HB5.out⟩

theorem wrong_in {x y : Int} (h : inB (-1000) x y = true) : True := trivial
theorem ivGood_any (a : Option Addr) (cs : List Int) (n cap : Nat) (w : World) (hx : Rd w a cs) (hl : cs.length = n * 2) (hn : n ≤ 1048576) :
    Calls Try.prog 64 #[.slice a n cap] w fun e w' => e = .returned (.bool (goodV cs n)) ∧ Below w.heap.size w w' := by
  have HL := Lib.hid hl
  clear hl
  go_enter Try.func64, Try.ntmps64
  go_wp2_with fail
  go_loopw [7] (fun i wr => ∃ k : Nat, k ≤ n ∧ i = .int .i64 k ∧ (∀ j, j < k → wrongB (lft cs j) (rgt cs j) = false) ∧ Below w.heap.size w wr) (fun i _ => n - (intOf i).toNat)
  case atStart => exact ⟨0, Nat.zero_le _, rfl, fun j hj => by omega, Below.refl _ _⟩
  case round =>
    obtain ⟨k, hk, rfl, hall, hb⟩ := hrel
    have HA := Lib.hid hall
    clear hall
    have hzr := hb.size
    by_cases hlt : k < n
    · obtain ⟨b, off, rfl, hbl, hc1, hc2⟩ := (hx.below hb).pair HL.out hlt
      cases hin : inB (lft cs k) (-1000) (rgt cs k)
      · have HF := Lib.hid (goodV_no (cs := cs) hlt (by have := inB_no.1 hin; simp [wrongB]; omega))
        go_wp2_with (go_at_call 78; refine (l1In_any _ _ _ _).mono ?_; rintro e w' ⟨rfl, rfl⟩)
        go_ret
        exact ⟨ret_bool HF.out.symm, (by repeat (first | exact Below.refl _ _ | assumption | refine Below.alloc ?_ (by first | exact Nat.le_refl _ | (simp only [World.size_alloc, World.size_setCell, World.size_drew]; omega) | omega) _ | refine Below.setCell ?_ (by first | exact Nat.le_refl _ | (simp only [World.size_alloc, World.size_setCell, World.size_drew]; omega) | omega) _ | refine Below.drew ?_))⟩
      · by_cases h3 : 1000 < rgt cs k
        · have HF := Lib.hid (goodV_no (cs := cs) hlt (by simp [wrongB, h3]))
          go_wp2_with (go_at_call 78; refine (l1In_any _ _ _ _).mono ?_; rintro e w' ⟨rfl, rfl⟩)
          go_ret
          exact ⟨ret_bool HF.out.symm, (by repeat (first | exact Below.refl _ _ | assumption | refine Below.alloc ?_ (by first | exact Nat.le_refl _ | (simp only [World.size_alloc, World.size_setCell, World.size_drew]; omega) | omega) _ | refine Below.setCell ?_ (by first | exact Nat.le_refl _ | (simp only [World.size_alloc, World.size_setCell, World.size_drew]; omega) | omega) _ | refine Below.drew ?_))⟩
        · have HW := Lib.hid (show wrongB (lft cs k) (rgt cs k) = false by have := inB_iff.1 hin; rw [wrongB_no]; omega)
          go_wp2_with (go_at_call 78; refine (l1In_any _ _ _ _).mono ?_; rintro e w' ⟨rfl, rfl⟩)
          go_roundw
          case rel =>
            refine ⟨k + 1, by omega, by go_num, fun j hj => ?_, (by repeat (first | exact Below.refl _ _ | assumption | refine Below.alloc ?_ (by first | exact Nat.le_refl _ | (simp only [World.size_alloc, World.size_setCell, World.size_drew]; omega) | omega) _ | refine Below.setCell ?_ (by first | exact Nat.le_refl _ | (simp only [World.size_alloc, World.size_setCell, World.size_drew]; omega) | omega) _ | refine Below.drew ?_))⟩
            by_cases e : j = k
            · rw [e]; exact HW.out
            · exact HA.out j (by omega)
          case measure => simp [intOf]; omega
    · obtain rfl : k = n := by omega
      have HG : Hid (goodV cs k = decide (k ≤ 10)) := by
        by_cases h : k ≤ 10
        · rw [Hid, goodV_iff.2 ⟨h, HA.out⟩]; simp [h]
        · rw [Hid, goodV_big (by omega)]; simp; omega
      go_wp2_with fail
      go_ret
      exact ⟨ret_bool (by rw [HG.out]; simp; omega), hb⟩

theorem ivOrder_any (a : Option Addr) (cs : List Int) (n cap : Nat) (w : World) (hx : Rd w a cs) (hl : cs.length = n * 2) (hn : n ≤ 10) :
    Calls Try.prog 65 #[.slice a n cap] w fun e w' => ∃ a' cap', e = .returned (.agg #[.int .i64 n, .slice a' n cap']) ∧ OwnI w' w.heap.size (.slice a' n cap') (ivo cs n n) ∧ Below w.heap.size w w' := by
  obtain ⟨i0, hi, hz0, hz1, hz2⟩ := info_parts infoInt
  have HL := Lib.hid hl
  clear hl
  go_enter Try.func65, Try.ntmps65
  go_wp2_with fail
  go_loopw [14] (fun i wr => ∃ (k : Nat) (v : Value), k ≤ n ∧ i = .int .i64 k ∧ OwnI wr (w.heap.size + 2) v (ivo cs n k) ∧ Below w.heap.size w wr ∧ Var2 wr w.heap.size (.int .i64 0) (.slice none 0 0) ∧ Var2 wr (w.heap.size + 1) (.int .i64 n) v) (fun i _ => n - (intOf i).toNat)
  case atStart => exact ⟨0, .slice none 0 0, Nat.zero_le _, rfl, OwnI.nil _ _, (by repeat (first | exact Below.refl _ _ | assumption | refine Below.alloc ?_ (by first | exact Nat.le_refl _ | (simp only [World.size_alloc, World.size_setCell, World.size_drew]; omega) | omega) _ | refine Below.setCell ?_ (by first | exact Nat.le_refl _ | (simp only [World.size_alloc, World.size_setCell, World.size_drew]; omega) | omega) _ | refine Below.drew ?_)), (Var2.new w _ _ _).alloc _, by simpa using Var2.new (w.alloc (.cells #[.int .i64 0, .slice none 0 0] 28)) (.int .i64 n) (.slice none 0 0) 28⟩
  case round =>
    obtain ⟨k, v, hk, rfl, hown, hb, hR, hV⟩ := hrel
    obtain ⟨av, cv, rfl⟩ := hown.form
    rw [ivo_len] at hown hV
    obtain ⟨wo, rfl⟩ : ∃ wo : World, wo = wr := ⟨_, rfl⟩
    have hzr := hb.size
    by_cases hlt : k < n
    · obtain ⟨b, off, rfl, hbl, hc1, hc2⟩ := (hx.below hb).pair HL.out hlt
      go_wp2_with fail
      go_loopw [6, 20] (fun s i wr => ∃ j : Nat, j ≤ n ∧ i = .int .i64 j ∧ s = .int .i64 (befTo cs (rgt cs k) j) ∧ Below wo.heap.size wo wr ∧ Box2 wr wo.heap.size (.int .i64 (lft cs k)) (.int .i64 (rgt cs k))) (fun _ i _ => n - (intOf i).toNat)
      case atStart => exact ⟨0, Nat.zero_le _, rfl, rfl, (by repeat (first | exact Below.refl _ _ | assumption | refine Below.alloc ?_ (by first | exact Nat.le_refl _ | (simp only [World.size_alloc, World.size_setCell, World.size_drew]; omega) | omega) _ | refine Below.setCell ?_ (by first | exact Nat.le_refl _ | (simp only [World.size_alloc, World.size_setCell, World.size_drew]; omega) | omega) _ | refine Below.drew ?_)), Box2.new wo _ _ _⟩
      case round =>
        obtain ⟨j, hj, rfl, rfl, hbj, hBj⟩ := hrel
        have ⟨zB, cB, dB⟩ := hBj
        have hzj := hbj.size
        by_cases hjl : j < n
        · obtain ⟨b2, off2, e2, hbl2, hd1, hd2⟩ := (hx.below (hb.trans (hbj.mono hb.size))).pair HL.out hjl
          simp only [Option.some.injEq, Addr.mk.injEq, and_true] at e2
          obtain ⟨rfl, rfl⟩ := e2
          have hbs := befTo_small cs (rgt cs k) (k := j) (by omega)
          have hor := Lib.hid (or_bit (b := befTo cs (rgt cs k) j) (k := j) (by omega) (by omega))
          clear hbs
          by_cases hlt2 : rgt cs k < lft cs j
          · have HS : Hid (befTo cs (rgt cs k) (j+1) = befTo cs (rgt cs k) j ||| 2 ^ j) := by rw [Hid, befTo, if_pos hlt2]
            go_wp2_with fail
            go_roundw
            case rel => exact ⟨j + 1, by omega, by go_num, val_int (by rw [hor.out, HS.out]), (by repeat (first | exact Below.refl _ _ | assumption | refine Below.alloc ?_ (by first | exact Nat.le_refl _ | (simp only [World.size_alloc, World.size_setCell, World.size_drew]; omega) | omega) _ | refine Below.setCell ?_ (by first | exact Nat.le_refl _ | (simp only [World.size_alloc, World.size_setCell, World.size_drew]; omega) | omega) _ | refine Below.drew ?_)), hBj.below (by repeat (first | exact Below.refl _ _ | assumption | refine Below.alloc ?_ (by first | exact Nat.le_refl _ | (simp only [World.size_alloc, World.size_setCell, World.size_drew]; omega) | omega) _ | refine Below.setCell ?_ (by first | exact Nat.le_refl _ | (simp only [World.size_alloc, World.size_setCell, World.size_drew]; omega) | omega) _ | refine Below.drew ?_))⟩
            case measure => simp [intOf]; omega
          · have HS : Hid (befTo cs (rgt cs k) (j+1) = befTo cs (rgt cs k) j) := by rw [Hid, befTo, if_neg hlt2]
            go_wp2_with fail
            go_roundw
            case rel => exact ⟨j + 1, by omega, by go_num, val_int (by rw [HS.out]), (by repeat (first | exact Below.refl _ _ | assumption | refine Below.alloc ?_ (by first | exact Nat.le_refl _ | (simp only [World.size_alloc, World.size_setCell, World.size_drew]; omega) | omega) _ | refine Below.setCell ?_ (by first | exact Nat.le_refl _ | (simp only [World.size_alloc, World.size_setCell, World.size_drew]; omega) | omega) _ | refine Below.drew ?_)), hBj.below (by repeat (first | exact Below.refl _ _ | assumption | refine Below.alloc ?_ (by first | exact Nat.le_refl _ | (simp only [World.size_alloc, World.size_setCell, World.size_drew]; omega) | omega) _ | refine Below.setCell ?_ (by first | exact Nat.le_refl _ | (simp only [World.size_alloc, World.size_setCell, World.size_drew]; omega) | omega) _ | refine Below.drew ?_))⟩
            case measure => simp [intOf]; omega
        · obtain rfl : j = n := by omega
          have o2 := hown.below hbj (Nat.le_refl _)
          have R2 := hR.below hbj
          have V2 := hV.below hbj
          have ⟨⟨zV, cV, dV⟩, fV, gV⟩ := V2
          have bwj := hb.trans (hbj.mono hb.size)
          have HE : Hid (((befTo cs (rgt cs k) j : Nat) : Int) = ivE cs j k) := rfl
          rw [HE.out]
          clear hc1 hc2
          go_wp2_with (at_builtin; refine wpList_append_own _ rfl _ _ 26 rfl (w.heap.size + 2) 3 i0 (.int .i64 0) 1 8 Try.underlying26 hi hz0 hz1 hz2 rfl (by decide) (.slice av k cv) k ((ivo cs j k).map (Value.int .i64)) rfl (by have h := o2.alloc (.cells #[.int .i64 (ivE cs j k)] 3); unfold OwnI at h; rw [ivo_len] at h; exact h) ⟨wr.heap.size, 0, none⟩ 1 1 [.int .i64 (ivE cs j k)] rfl rfl (cell_one_new _ _ _) (by intro u hu; simp at hu; subst hu; rfl) (by unfold maxLen; omega) (by omega) (by simp; omega) ?_)
          intro v' w6 hown6 hgrow _
          have hg2 := grown_alloc_set hgrow
          have o6 : OwnI w6 (w.heap.size + 2) v' (ivo cs j (k + 1)) := by
            unfold OwnI
            rw [ivo_len, ivo, fmap_succ, List.map_append]
            exact hown6
          obtain ⟨a6, c6, rfl⟩ := o6.form
          rw [ivo_len] at o6 ⊢
          have hU := o2.lt
          have R6 := R2.kept hg2 (ne_own (fun c e => by have := hU c e; omega))
          have V6 := V2.kept hg2 (ne_own (fun c e => by have := hU c e; omega))
          have bw6 := bwj.trans (below_of_grown hg2 (fun c e => by have := hU c e; omega) bwj.size)
          have ⟨⟨zV6, cV6, dV6⟩, fV6, gV6⟩ := V6
          clear hown6 hgrow hU cV dV fV gV
          go_wp2_with fail
          go_roundw
          case rel => exact ⟨k + 1, _, by omega, by go_num, o6.setBelow (p := ⟨w.heap.size + 1, 1, none⟩) (show w.heap.size + 1 < w.heap.size + 2 by omega) _, bw6.setCell (p := ⟨w.heap.size + 1, 1, none⟩) (show w.heap.size ≤ w.heap.size + 1 by omega) _, R6.other (p := ⟨w.heap.size + 1, 1, none⟩) _ (show w.heap.size ≠ w.heap.size + 1 by omega), V6.set1 _⟩
          case measure => simp [intOf]; omega
    · obtain rfl : k = n := by omega
      have ⟨⟨zR, cR, dR⟩, fR, gR⟩ := hR
      have ⟨⟨zV, cV, dV⟩, fV, gV⟩ := hV
      go_wp2_with fail
      have R3 := hR.set (.int .i64 (k : Int)) (.slice av k cv)
      refine bodyPost_ret (v := .agg #[.int .i64 (k : Int), .slice av k cv]) (by have ⟨⟨_, q1, q2⟩, _, _⟩ := R3; simp [results, Try.results65, go_sem, q1, q2]) rfl ?_
      refine ⟨av, cv, rfl, ?_, ?_⟩
      · exact ((hown.setBelow (by simp) _).setBelow (by simp) _).mono (by omega)
      · exact (hb.setCell (by simp) _).setCell (by simp) _

set_option maxRecDepth 100000 in
set_option maxHeartbeats 2000000 in
theorem ended_any (p L m : Nat) (w : World) (h : Cur w p L) (hL : L ≤ 500000000) (hm : m ≤ 10) :
    Calls Try.prog 80 #[.pointer (some ⟨p, 0, none⟩), .int .i64 (m : Int)] w (AnyO w p (L + 2000)) := by
  have hpw := h.lt
  have ha : Below w.heap.size w (w.alloc (.cells #[.int .i64 0, .slice none 0 0] 28)) := (by repeat (first | exact Below.refl _ _ | assumption | refine Below.alloc ?_ (by first | exact Nat.le_refl _ | (simp only [World.size_alloc, World.size_setCell, World.size_drew]; omega) | omega) _ | refine Below.setCell ?_ (by first | exact Nat.le_refl _ | (simp only [World.size_alloc, World.size_setCell, World.size_drew]; omega) | omega) _ | refine Below.drew ?_))
  have H := Lib.hid (h.below ha)
  have HR := Lib.hid (Var2.new w (.int .i64 0) (.slice none 0 0) 28)
  clear h
  go_enter Try.func80, Try.ntmps80
  go_wp2_with fail
  refine (intervals_any p L m _ H.out (by omega) hm).mono ?_
  rintro e w1 ⟨a1, c1, n1, cs, rfl, ho1, hn1, he1, hc1, hd1⟩
  have hs1 : w.heap.size + 1 ≤ w1.heap.size := by have := hd1.size; simpa using this
  have HC1 := Lib.hid hc1
  have HD1 := Lib.hid hd1.of_alloc
  have HO1 := Lib.hid (ho1.mono (B' := w.heap.size + 1) (by simp))
  have HR1 := Lib.hid (HR.out.drawn hd1 (by omega))
  clear hc1 hd1 ho1 HR H
  go_wp2_with fail
  refine (ivGood_any a1 cs n1 c1 w1 (HO1.out.rd (by omega)) HO1.out.len (by omega)).mono ?_
  rintro e w2 ⟨rfl, hb2⟩
  have hs2 := hb2.size
  have HC2 := Lib.hid (HC1.out.below hb2)
  have HD2 := Lib.hid (HD1.out.below hb2)
  have HO2 := Lib.hid (HO1.out.below hb2 (Nat.le_refl _))
  have HR2 := Lib.hid (HR1.out.below hb2)
  clear hb2 HC1 HD1 HO1 HR1
  cases hg : goodV cs n1
  · go_wp2_with fail
    refine (anyOrder_any p (L + 200) m _ HC2.out (by omega) hm).mono ?_
    rintro e w3 ⟨n, a, cap, xs, rfl, ho, hl, h0, h1, hx, hc, hd⟩
    have hR3 := HR2.out.drawn hd (by omega)
    have ⟨⟨zR, cR, dR⟩, fR, gR⟩ := hR3
    have ho' := ho.mono (B' := w.heap.size + 1) (by omega)
    have hdd := HD2.out.trans hd
    go_wp2_with fail
    have R3 := hR3.set (.int .i64 n) (.slice a xs.length cap)
    refine bodyPost_ret (v := .agg #[.int .i64 n, .slice a xs.length cap]) (by have ⟨⟨_, q1, q2⟩, _, _⟩ := R3; simp [results, Try.results80, go_sem, q1, q2]) rfl ?_
    exact any_end ho' hl h0 h1 hx hc (by omega) hpw hdd
  · go_wp2_with fail
    refine (one_any p (L + 200) 4 _ HC2.out (by omega) (by omega)).mono ?_
    rintro e w3 ⟨he, hc3, hd3⟩
    have hs3 := hd3.size
    have HC3 := Lib.hid hc3
    have HD3 := Lib.hid (HD2.out.trans hd3)
    have HO3 := Lib.hid (HO2.out.drawn hd3 (by omega))
    have HR3 := Lib.hid (HR2.out.drawn hd3 (by omega))
    have hn10 := (goodV_iff.1 hg).1
    clear hc3 hd3 hg HC2 HD2 HO2 HR2
    rcases he with rfl | rfl
    · go_wp2_with fail
      refine (anyOrder_any p (L + 202) m _ HC3.out (by omega) hm).mono ?_
      rintro e w4 ⟨n, a, cap, xs, rfl, ho, hl, h0, h1, hx, hc, hd⟩
      have hR4 := HR3.out.drawn hd (by omega)
      have ⟨⟨zR, cR, dR⟩, fR, gR⟩ := hR4
      have ho' := ho.mono (B' := w.heap.size + 1) (by omega)
      have hdd := HD3.out.trans hd
      go_wp2_with fail
      have R3 := hR4.set (.int .i64 n) (.slice a xs.length cap)
      refine bodyPost_ret (v := .agg #[.int .i64 n, .slice a xs.length cap]) (by have ⟨⟨_, q1, q2⟩, _, _⟩ := R3; simp [results, Try.results80, go_sem, q1, q2]) rfl ?_
      exact any_end ho' hl h0 h1 hx hc (by omega) hpw hdd
    · go_wp2_with fail
      refine (ivOrder_any a1 cs n1 c1 w3 (HO3.out.rd (by omega)) HO3.out.len hn10).mono ?_
      rintro e w4 ⟨a, cap, rfl, ho, hb⟩
      have hR4 := HR3.out.below hb
      have ⟨⟨zR, cR, dR⟩, fR, gR⟩ := hR4
      have hlv : (ivo cs n1 n1).length = n1 := ivo_len _ _ _
      obtain ⟨xs, hxs⟩ : ∃ xs, xs = ivo cs n1 n1 := ⟨_, rfl⟩
      have HXX : Hid (∀ k, k < xs.length → -1 ≤ nth xs k ∧ nth xs k ≤ 1024) := fun k hk => by
        rw [hxs] at hk ⊢
        rw [ivo_len] at hk
        have h9 := befTo_lt cs (rgt cs k) n1
        have h8 := Nat.pow_le_pow_right (show 0 < 2 by omega) hn10
        have h7 : (2 : Nat) ^ 10 = 1024 := by decide
        rw [ivo, fmap_nth _ hk, ivE]
        omega
      rw [← hxs] at ho hlv
      obtain rfl : n1 = xs.length := hlv.symm
      clear hxs hlv
      have ho' := ho.mono (B' := w.heap.size + 1) (by omega)
      have hdd := HD3.out.below hb
      have hcc := HC3.out.below hb
      go_wp2_with fail
      have R3 := hR4.set (.int .i64 (xs.length : Int)) (.slice a xs.length cap)
      refine bodyPost_ret (v := .agg #[.int .i64 (xs.length : Int), .slice a xs.length cap]) (by have ⟨⟨_, q1, q2⟩, _, _⟩ := R3; simp [results, Try.results80, go_sem, q1, q2]) rfl ?_
      exact any_end ho' hn10 (by omega) (by omega) HXX.out hcc (by omega) hpw hdd

theorem rd_lit2 (w : World) (x0 x1 : Int) (t : TypeId) : Rd (w.alloc (.cells #[.int .i64 x0, .int .i64 x1] t)) (some ⟨w.heap.size, 0, none⟩) [x0, x1] :=
  ⟨by simp, fun k hk => ⟨w.heap.size, 0, rfl, by simp, by
    have : k = 0 ∨ k = 1 := by simp at hk; omega
    rcases this with rfl | rfl <;> simp [nth]⟩⟩
/-- an order and an interval that a law draws -/
def DrawnOV (w : World) (e : Ending) (w' : World) : Prop :=
  ∃ (n : Int) (a : Option Addr) (cap : Nat) (xs : List Int) (x y : Int), e = .returned (.tuple #[.agg #[.int .i64 n, .slice a xs.length cap], .agg #[.int .i64 x, .int .i64 y]]) ∧ OwnI w' w.heap.size (.slice a xs.length cap) xs ∧ xs.length ≤ 10 ∧ -1 ≤ n ∧ n ≤ 11 ∧ (-1001 ≤ x ∧ x ≤ 1001) ∧ (-1001 ≤ y ∧ y ≤ 1001) ∧ Below w.heap.size w w'
structure InsK (w : World) (a : Option Addr) (cap : Nat) (xs : List Int) (W : World) (L : Nat) : Prop where
  o : Var2 W w.heap.size (.int .i64 0) (.slice none 0 0)
  z : Var2 W (w.heap.size + 1) (.int .i64 0) (.int .i64 0)
  r : OwnI W (w.heap.size + 3) (.slice a xs.length cap) xs
  c : Cur W (w.heap.size + 2) L
  b : Below w.heap.size w W
  s : w.heap.size + 3 ≤ W.heap.size
theorem InsK.drawn {w W W' : World} {a : Option Addr} {cap L L' : Nat} {xs : List Int} (h : InsK w a cap xs W L) (hd : Drawn W W' (w.heap.size + 2)) (hc : Cur W' (w.heap.size + 2) L') : InsK w a cap xs W' L' :=
  ⟨h.o.drawn hd (by omega), h.z.drawn hd (by omega), h.r.drawn hd (by omega), hc, h.b.trans (hd.bel (by omega) h.b.size), Nat.le_trans h.s hd.size⟩
theorem InsK.below {w W W' : World} {a : Option Addr} {cap L : Nat} {xs : List Int} (h : InsK w a cap xs W L) (hb : Below W.heap.size W W') : InsK w a cap xs W' L :=
  ⟨h.o.below hb, h.z.below hb, h.r.below hb (Nat.le_refl _), h.c.below hb, h.b.trans (hb.mono h.b.size), Nat.le_trans h.s hb.size⟩
theorem ins_end {w W : World} {a : Option Addr} {cap L : Nat} {xs : List Int} {n x y : Int} (h : InsK w a cap xs W L) (hl : xs.length ≤ 10) (h0 : -1 ≤ n) (h1 : n ≤ 11) (hx : -1001 ≤ x ∧ x ≤ 1001) (hy : -1001 ≤ y ∧ y ≤ 1001) (m : Nat) :
    (Var2 (((((W.setCell ⟨w.heap.size, 0, none⟩ (.int .i64 n)).setCell ⟨w.heap.size, 1, none⟩ (.slice a xs.length cap)).setCell ⟨w.heap.size + 1, 0, none⟩ (.int .i64 x)).setCell ⟨w.heap.size + 1, 1, none⟩ (.int .i64 y)).drewN m) w.heap.size (.int .i64 n) (.slice a xs.length cap) ∧ Var2 (((((W.setCell ⟨w.heap.size, 0, none⟩ (.int .i64 n)).setCell ⟨w.heap.size, 1, none⟩ (.slice a xs.length cap)).setCell ⟨w.heap.size + 1, 0, none⟩ (.int .i64 x)).setCell ⟨w.heap.size + 1, 1, none⟩ (.int .i64 y)).drewN m) (w.heap.size + 1) (.int .i64 x) (.int .i64 y)) ∧
    DrawnOV w (.returned (.tuple #[.agg #[.int .i64 n, .slice a xs.length cap], .agg #[.int .i64 x, .int .i64 y]])) (((((W.setCell ⟨w.heap.size, 0, none⟩ (.int .i64 n)).setCell ⟨w.heap.size, 1, none⟩ (.slice a xs.length cap)).setCell ⟨w.heap.size + 1, 0, none⟩ (.int .i64 x)).setCell ⟨w.heap.size + 1, 1, none⟩ (.int .i64 y)).drewN m) := by
  have bd := fun (B : Nat) (V : World) => Joins.below_draws B V m
  have s1 := (h.o.set (.int .i64 n) (.slice a xs.length cap))
  have s2 := (s1.other (p := ⟨w.heap.size + 1, 0, none⟩) (.int .i64 x) (show w.heap.size ≠ w.heap.size + 1 by omega)).other (p := ⟨w.heap.size + 1, 1, none⟩) (.int .i64 y) (show w.heap.size ≠ w.heap.size + 1 by omega)
  have z1 := (h.z.other (p := ⟨w.heap.size, 0, none⟩) (.int .i64 n) (show w.heap.size + 1 ≠ w.heap.size by omega)).other (p := ⟨w.heap.size, 1, none⟩) (.slice a xs.length cap) (show w.heap.size + 1 ≠ w.heap.size by omega)
  have z2 := z1.set (.int .i64 x) (.int .i64 y)
  have r1 := (((h.r.setBelow (p := ⟨w.heap.size, 0, none⟩) (show w.heap.size < w.heap.size + 3 by omega) (.int .i64 n)).setBelow (p := ⟨w.heap.size, 1, none⟩) (show w.heap.size < w.heap.size + 3 by omega) (.slice a xs.length cap)).setBelow (p := ⟨w.heap.size + 1, 0, none⟩) (show w.heap.size + 1 < w.heap.size + 3 by omega) (.int .i64 x)).setBelow (p := ⟨w.heap.size + 1, 1, none⟩) (show w.heap.size + 1 < w.heap.size + 3 by omega) (.int .i64 y)
  have b1 := (((h.b.setCell (p := ⟨w.heap.size, 0, none⟩) (Nat.le_refl _) (.int .i64 n)).setCell (p := ⟨w.heap.size, 1, none⟩) (Nat.le_refl _) (.slice a xs.length cap)).setCell (p := ⟨w.heap.size + 1, 0, none⟩) (show w.heap.size ≤ w.heap.size + 1 by omega) (.int .i64 x)).setCell (p := ⟨w.heap.size + 1, 1, none⟩) (show w.heap.size ≤ w.heap.size + 1 by omega) (.int .i64 y)
  exact ⟨⟨s2.below (bd _ _), z2.below (bd _ _)⟩, n, a, cap, xs, x, y, rfl, (r1.below (bd _ _) (Nat.le_refl _)).mono (by omega), hl, h0, h1, hx, hy, b1.trans (bd _ _)⟩
set_option maxRecDepth 100000 in
set_option maxHeartbeats 2000000 in
theorem drInsert_any (a : Option Addr) (n cap : Nat) (w : World) (hR : RdB w a n) (hn : n ≤ 1048576) :
    Calls Try.prog 23 #[.slice a n cap] w (DrawnOV w) := by
  go_enter Try.func23, Try.ntmps23
  go_wp2_with fail
  have ba : Below w.heap.size w (w.alloc (.cells #[.int .i64 0, .slice none 0 0] 28)) := (by repeat (first | exact Below.refl _ _ | assumption | refine Below.alloc ?_ (by first | exact Nat.le_refl _ | (simp only [World.size_alloc, World.size_setCell, World.size_drew]; omega) | omega) _ | refine Below.setCell ?_ (by first | exact Nat.le_refl _ | (simp only [World.size_alloc, World.size_setCell, World.size_drew]; omega) | omega) _ | refine Below.drew ?_))
  have bb : Below (w.alloc (.cells #[.int .i64 0, .slice none 0 0] 28)).heap.size (w.alloc (.cells #[.int .i64 0, .slice none 0 0] 28)) ((w.alloc (.cells #[.int .i64 0, .slice none 0 0] 28)).alloc (.cells #[.int .i64 0, .int .i64 0] 40)) := (by repeat (first | exact Below.refl _ _ | assumption | refine Below.alloc ?_ (by first | exact Nat.le_refl _ | (simp only [World.size_alloc, World.size_setCell, World.size_drew]; omega) | omega) _ | refine Below.setCell ?_ (by first | exact Nat.le_refl _ | (simp only [World.size_alloc, World.size_setCell, World.size_drew]; omega) | omega) _ | refine Below.drew ?_))
  have hcur := cur_new (w := (w.alloc (.cells #[.int .i64 0, .slice none 0 0] 28)).alloc (.cells #[.int .i64 0, .int .i64 0] 40)) (cap := cap) (t := 83) ((hR.below ba).below bb) hn
  rw [World.size_alloc, World.size_alloc] at hcur
  refine (ended_any (w.heap.size + 1 + 1) 0 7 _ hcur (by omega) (by omega)).mono ?_
  rintro e w1 ⟨n1, a1, c1, xs, rfl, ho1, hl1, h0, h1, hx1, hc1, hd1⟩
  have b1 : Below (w.heap.size + 2) ((w.alloc (.cells #[.int .i64 0, .slice none 0 0] 28)).alloc (.cells #[.int .i64 0, .int .i64 0] 40)) w1 := hd1.of_alloc.bel (Nat.le_refl _) (by simp)
  have hK1 : InsK w a1 c1 xs w1 2000 := by
    have hV0 := (Var2.new w (.int .i64 0) (.slice none 0 0) 28).alloc (.cells #[.int .i64 0, .int .i64 0] 40)
    have hV1 := Var2.new (w.alloc (.cells #[.int .i64 0, .slice none 0 0] 28)) (.int .i64 0) (.int .i64 0) 40
    rw [World.size_alloc] at hV1
    refine ⟨hV0.below (by simpa using b1), hV1.below (by simpa using b1), ho1.mono (by simp), hc1.mono (by omega), (ba.trans (bb.mono (by simp))).trans (b1.mono (by omega)), ?_⟩
    have := hd1.size
    simpa using this
  have hs1 := hK1.s
  have bb1 : Below w1.heap.size w1 (w1.alloc (.cells #[.int .i64 n1, .slice a1 xs.length c1] 28)) := (by repeat (first | exact Below.refl _ _ | assumption | refine Below.alloc ?_ (by first | exact Nat.le_refl _ | (simp only [World.size_alloc, World.size_setCell, World.size_drew]; omega) | omega) _ | refine Below.setCell ?_ (by first | exact Nat.le_refl _ | (simp only [World.size_alloc, World.size_setCell, World.size_drew]; omega) | omega) _ | refine Below.drew ?_))
  have HK := Lib.hid (hK1.below bb1)
  have HB := Lib.hid (Var2.new w1 (.int .i64 n1) (.slice a1 xs.length c1) 28)
  obtain ⟨w2, hw2⟩ : ∃ x : World, x = w1.alloc (.cells #[.int .i64 n1, .slice a1 xs.length c1] 28) := ⟨_, rfl⟩
  have HW2 := Lib.hid hw2
  have hs2 : w2.heap.size = w1.heap.size + 1 := by rw [hw2]; simp
  rw [← hw2] at HK HB
  clear hw2 hx1 hcur hc1 hd1 ho1 b1 bb1 ba bb hK1 hR
  go_wp2_with fail
  rw [← HW2.out]
  refine (pick_any (w.heap.size + 2) 2000 7 _ HK.out.c (by omega) (by omega)).mono ?_
  rintro e w3 ⟨x, rfl, hx0, hx1, hc3, hd3⟩
  have hs3 := hd3.size
  replace HK := Lib.hid (HK.out.drawn hd3 hc3)
  replace HB := Lib.hid (HB.out.drawn hd3 (by omega))
  have er : IntKind.i64.wrap (x - 1) = x - 1 := wrap64_small _ (by omega) (by omega)
  clear hc3 hd3 HW2
  go_wp2_with fail
  refine (pick_any (w.heap.size + 2) 2002 4 _ HK.out.c (by omega) (by omega)).mono ?_
  rintro e w4 ⟨y, rfl, hy0, hy1, hc4, hd4⟩
  have hs4 := hd4.size
  replace HK := Lib.hid (HK.out.drawn hd4 hc4)
  replace HB := Lib.hid (HB.out.drawn hd4 (by omega))
  clear hc4 hd4
  have HR4 := Lib.hid HK.out.r
  have bb4 : Below w4.heap.size w4 (w4.alloc (.cells #[.int .i64 (x - 1), .int .i64 (x - 1 + y)] 40)) := (by repeat (first | exact Below.refl _ _ | assumption | refine Below.alloc ?_ (by first | exact Nat.le_refl _ | (simp only [World.size_alloc, World.size_setCell, World.size_drew]; omega) | omega) _ | refine Below.setCell ?_ (by first | exact Nat.le_refl _ | (simp only [World.size_alloc, World.size_setCell, World.size_drew]; omega) | omega) _ | refine Below.drew ?_))
  replace HK := Lib.hid (HK.out.below bb4)
  replace HB := Lib.hid (HB.out.below bb4)
  have HY := Lib.hid (Var2.new w4 (.int .i64 (x - 1)) (.int .i64 (x - 1 + y)) 40)
  obtain ⟨w5, hw5⟩ : ∃ x' : World, x' = w4.alloc (.cells #[.int .i64 (x - 1), .int .i64 (x - 1 + y)] 40) := ⟨_, rfl⟩
  have HW5 := Lib.hid hw5
  have hs5 : w5.heap.size = w4.heap.size + 1 := by rw [hw5]; simp
  rw [← hw5] at HK HB HY
  have HNE : Hid ((Value.slice a1 xs.length c1).ownBlock = none ∨ (Value.slice a1 xs.length c1).ownBlock ≠ some w4.heap.size) := by
    have hr4 := HR4.out
    cases e : (Value.slice a1 xs.length c1).ownBlock with
    | none => exact .inl rfl
    | some c => exact .inr (by have := (hr4.lt c e).2; simp; omega)
  clear hw5 bb4
  go_wp2_with fail
  rw [← HW5.out]
  clear HW5
  refine (one_any (w.heap.size + 2) 2004 8 _ HK.out.c (by omega) (by omega)).mono ?_
  rintro e w6 ⟨he, hc6, hd6⟩
  have hs6 := hd6.size
  replace HK := Lib.hid (HK.out.drawn hd6 hc6)
  replace HB := Lib.hid (HB.out.drawn hd6 (by omega))
  replace HY := Lib.hid (HY.out.drawn hd6 (by omega))
  clear hc6 hd6
  rcases he with rfl | rfl
  · have bb6 : Below w6.heap.size w6 (w6.alloc (.cells #[.int .i64 (-1001), .int .i64 3] 3)) := (by repeat (first | exact Below.refl _ _ | assumption | refine Below.alloc ?_ (by first | exact Nat.le_refl _ | (simp only [World.size_alloc, World.size_setCell, World.size_drew]; omega) | omega) _ | refine Below.setCell ?_ (by first | exact Nat.le_refl _ | (simp only [World.size_alloc, World.size_setCell, World.size_drew]; omega) | omega) _ | refine Below.drew ?_))
    go_wp2_with fail
    refine (among_any (w.heap.size + 2) 2006 (some ⟨w6.heap.size, 0, none⟩) [-1001, 3] 2 2 _ (HK.out.c.below bb6) (by omega) (rd_lit2 w6 (-1001) 3 _) rfl (by omega) (by omega) (fun b off e => by simp only [Option.some.injEq, Addr.mk.injEq] at e; omega)).mono ?_
    rintro e w7 ⟨k, hk, rfl, hc7, hd7⟩
    have hs7 := hd7.size
    rw [World.size_alloc] at hs7
    have hz7 : -1001 ≤ nth [-1001, 3] k ∧ nth [-1001, 3] k ≤ 1001 := by
      have : k = 0 ∨ k = 1 := by omega
      rcases this with rfl | rfl <;> simp [nth]
    generalize nth [-1001, 3] k = x7 at hz7
    replace HK := Lib.hid ((HK.out.below bb6).drawn hd7 hc7)
    replace HB := Lib.hid ((HB.out.below bb6).drawn hd7 (by omega))
    replace HY := Lib.hid ((HY.out.below bb6).drawn hd7 (by omega))
    clear hc7 hd7 bb6
    have bb7 : Below w7.heap.size w7 (w7.alloc (.cells #[.int .i64 2, .int .i64 1000, .int .i64 1001] 3)) := (by repeat (first | exact Below.refl _ _ | assumption | refine Below.alloc ?_ (by first | exact Nat.le_refl _ | (simp only [World.size_alloc, World.size_setCell, World.size_drew]; omega) | omega) _ | refine Below.setCell ?_ (by first | exact Nat.le_refl _ | (simp only [World.size_alloc, World.size_setCell, World.size_drew]; omega) | omega) _ | refine Below.drew ?_))
    go_wp2_with fail
    refine (among_any (w.heap.size + 2) 2008 (some ⟨w7.heap.size, 0, none⟩) [2, 1000, 1001] 3 3 _ (HK.out.c.below bb7) (by omega) (rd_lit3 w7 2 1000 1001 _) rfl (by omega) (by omega) (fun b off e => by simp only [Option.some.injEq, Addr.mk.injEq] at e; omega)).mono ?_
    rintro e w8 ⟨k, hk, rfl, hc8, hd8⟩
    have hs8 := hd8.size
    rw [World.size_alloc] at hs8
    have hz8 : -1001 ≤ nth [2, 1000, 1001] k ∧ nth [2, 1000, 1001] k ≤ 1001 := by
      have : k = 0 ∨ k = 1 ∨ k = 2 := by omega
      rcases this with rfl | rfl | rfl <;> simp [nth]
    generalize nth [2, 1000, 1001] k = y8 at hz8
    replace HK := Lib.hid ((HK.out.below bb7).drawn hd8 hc8)
    replace HB := Lib.hid ((HB.out.below bb7).drawn hd8 (by omega))
    replace HY := Lib.hid ((HY.out.below bb7).drawn hd8 (by omega))
    clear hc8 hd8 bb7
    have HY2 := Lib.hid (HY.out.set (.int .i64 x7) (.int .i64 y8))
    have HB2 := Lib.hid ((HB.out.other (p := ⟨w4.heap.size, 0, none⟩) (.int .i64 x7) (show w1.heap.size ≠ w4.heap.size by omega)).other (p := ⟨w4.heap.size, 1, none⟩) (.int .i64 y8) (show w1.heap.size ≠ w4.heap.size by omega))
    have HK2 : Hid (InsK w a1 c1 xs ((w8.setCell ⟨w4.heap.size, 0, none⟩ (.int .i64 x7)).setCell ⟨w4.heap.size, 1, none⟩ (.int .i64 y8)) 3000) := by
      have h := HK.out
      refine ⟨(h.o.other (p := ⟨w4.heap.size, 0, none⟩) _ (show w.heap.size ≠ w4.heap.size by omega)).other (p := ⟨w4.heap.size, 1, none⟩) _ (show w.heap.size ≠ w4.heap.size by omega), (h.z.other (p := ⟨w4.heap.size, 0, none⟩) _ (show w.heap.size + 1 ≠ w4.heap.size by omega)).other (p := ⟨w4.heap.size, 1, none⟩) _ (show w.heap.size + 1 ≠ w4.heap.size by omega), ?_, ((h.c.set ⟨w4.heap.size, 0, none⟩ _ (show w.heap.size + 2 < w4.heap.size by omega)).set ⟨w4.heap.size, 1, none⟩ _ (show w.heap.size + 2 < w4.heap.size by omega)).mono (by omega), (h.b.setCell (p := ⟨w4.heap.size, 0, none⟩) (show w.heap.size ≤ w4.heap.size by omega) _).setCell (p := ⟨w4.heap.size, 1, none⟩) (show w.heap.size ≤ w4.heap.size by omega) _, by simpa using h.s⟩
      exact (h.r.kept (grown_set w8 ⟨w4.heap.size, 0, none⟩ (.int .i64 x7)) HNE.out).kept (grown_set _ ⟨w4.heap.size, 1, none⟩ (.int .i64 y8)) HNE.out
    have ⟨⟨zY, cY, dY⟩, fY, gY⟩ := HY.out
    go_wp2_with fail
    clear zY cY dY fY gY
    have ⟨⟨zY, cY, dY⟩, fY, gY⟩ := HY2.out
    have ⟨⟨zB, cB, dB⟩, fB, gB⟩ := HB2.out
    have ⟨⟨zO, cO, dO⟩, fO, gO⟩ := HK2.out.o
    have ⟨⟨zZ, cZ, dZ⟩, fZ, gZ⟩ := HK2.out.z
    have hne1 : w4.heap.size ≠ w.heap.size := by omega
    have hne2 : w4.heap.size ≠ w.heap.size + 1 := by omega
    go_region
    have hend := fun m => ins_end HK2.out hl1 h0 h1 hz7 hz8 m
    all_goals
      go_wp2_with fail
      have hE := hend 1
      rw [show ∀ V : World, V.drew = V.drewN 1 from fun _ => rfl]
      generalize World.drewN _ 1 = WE at hE ⊢
      obtain ⟨⟨R3, R4⟩, hD⟩ := hE
      refine bodyPost_ret (v := .tuple #[.agg #[.int .i64 n1, .slice a1 xs.length c1], .agg #[.int .i64 x7, .int .i64 y8]]) (by have ⟨⟨_, q1, q2⟩, _, _⟩ := R3; have ⟨⟨_, q3, q4⟩, _, _⟩ := R4; simp [results, Try.results23, go_sem, q1, q2, q3, q4]) rfl ?_
      exact hD
  · have ⟨⟨zB, cB, dB⟩, fB, gB⟩ := HB.out
    have ⟨⟨zY, cY, dY⟩, fY, gY⟩ := HY.out
    have ⟨⟨zO, cO, dO⟩, fO, gO⟩ := HK.out.o
    have ⟨⟨zZ, cZ, dZ⟩, fZ, gZ⟩ := HK.out.z
    go_wp2_with fail
    have hne1 : w4.heap.size ≠ w.heap.size := by omega
    have hne2 : w4.heap.size ≠ w.heap.size + 1 := by omega
    go_region
    have hend := fun m => ins_end (x := x - 1) (y := x - 1 + y) HK.out hl1 h0 h1 (by omega) (by omega) m
    all_goals
      go_wp2_with fail
      have hE := hend 1
      rw [show ∀ V : World, V.drew = V.drewN 1 from fun _ => rfl]
      generalize World.drewN _ 1 = WE at hE ⊢
      obtain ⟨⟨R3, R4⟩, hD⟩ := hE
      refine bodyPost_ret (v := .tuple #[.agg #[.int .i64 n1, .slice a1 xs.length c1], .agg #[.int .i64 (x - 1), .int .i64 (x - 1 + y)]]) (by have ⟨⟨_, q1, q2⟩, _, _⟩ := R3; have ⟨⟨_, q3, q4⟩, _, _⟩ := R4; simp [results, Try.results23, go_sem, q1, q2, q3, q4]) rfl ?_
      exact hD

set_option maxRecDepth 100000 in
theorem pSameV_same (a b : Option Addr) (cs : List Int) (n ca cb : Nat) (w : World) (hx : Rd w a cs) (hy : Rd w b cs) (hl : cs.length = n * 2) (hn : n ≤ 1048576) :
    Calls Try.prog 19 #[.slice a n ca, .slice b n cb] w fun e w' => e = .returned (.bool true) ∧ Below w.heap.size w w' := by
  go_enter Try.func19, Try.ntmps19
  go_wp2_with fail
  go_loopw [13] (fun i wr => ∃ k : Nat, k ≤ n ∧ i = .int .i64 k ∧ Below w.heap.size w wr) (fun i _ => n - (intOf i).toNat)
  case atStart => exact ⟨0, Nat.zero_le _, rfl, Below.refl _ _⟩
  case round =>
    obtain ⟨k, hk, rfl, hb⟩ := hrel
    by_cases hlt : k < n
    · have k1 : (k : Int) < (n : Int) := by omega
      obtain ⟨b1, o1, rfl, hb1, hc1, hc2⟩ := (hx.below hb).pair hl hlt
      obtain ⟨b2, o2, rfl, hb2, hc3, hc4⟩ := (hy.below hb).pair hl hlt
      go_wp2_with fail
      go_quiet (fail)
      go_wp2_with fail
      go_roundw
      case rel => exact ⟨k + 1, by omega, by go_num, hb.trans (Joins.below_draws _ _ _)⟩
      case measure => simp [intOf]; omega
    · go_wp2_with fail
      go_ret
      exact ⟨rfl, hb⟩

theorem pSame_any (a b : Option Addr) (xs ys : List Int) (ca cb : Nat) (w : World) (hx : Rd w a xs) (hy : Rd w b ys) :
    Calls Try.prog 32 #[.slice a xs.length ca, .slice b ys.length cb] w fun e w' => e = .returned (.bool (eqL xs ys)) ∧ Below w.heap.size w w' := by
  have hlx := hx.len
  have hly := hy.len
  by_cases hl : xs.length = ys.length
  · have hl' : ((xs.length : Int) != (ys.length : Int)) = false := by simp [hl]
    go_enter Try.func32, Try.ntmps32
    have HL := Lib.hid hl
    clear hl
    go_wp2_with fail
    go_loopw [13] (fun i wr => ∃ k : Nat, k ≤ xs.length ∧ i = .int .i64 k ∧ xs.take k = ys.take k ∧ Below w.heap.size w wr) (fun i _ => xs.length - (intOf i).toNat)
    case atStart => exact ⟨0, Nat.zero_le _, rfl, rfl, Below.refl _ _⟩
    case round =>
      obtain ⟨k, hk, rfl, htk, hb⟩ := hrel
      have HT := Lib.hid htk
      clear htk
      by_cases hlt : k < xs.length
      · have hlt' : k < ys.length := by rw [← HL.out]; exact hlt
        obtain ⟨b1, o1, rfl, hb1, hc1⟩ := (hx.below hb).cell k hlt
        obtain ⟨b2, o2, rfl, hb2, hc2⟩ := (hy.below hb).cell k hlt'
        have k1 : (k : Int) < (xs.length : Int) := by omega
        have k2 : (k : Int) < (ys.length : Int) := by omega
        by_cases he : nth xs k = nth ys k
        · have he' : (nth xs k != nth ys k) = false := by simp [he]
          have HE := Lib.hid he
          clear he
          go_wp2_with fail
          go_quiet (fail)
          go_wp2_with fail
          go_roundw
          case rel =>
            refine ⟨k + 1, by omega, by go_num, ?_, by exact hb.trans (Joins.below_draws _ _ _)⟩
            rw [List.take_succ_eq_append_getElem hlt, List.take_succ_eq_append_getElem hlt', HT.out, ← nth_get, ← nth_get, HE.out]
          case measure => simp [intOf]; omega
        · have he' : (nth xs k != nth ys k) = true := by simp [he]
          have hne : eqL xs ys = false := by
            simp only [eqL, decide_eq_false_iff_not]
            intro e
            subst e
            exact he rfl
          have HN := Lib.hid hne
          clear he hne
          go_wp2_with fail
          go_quiet (fail)
          go_wp2_with fail
          go_ret
          exact ⟨ret_bool HN.out.symm, hb.trans (Joins.below_draws _ _ _)⟩
      · go_wp2_with fail
        go_ret
        refine ⟨ret_bool ?_, hb⟩
        have h1 := HT.out
        rw [List.take_of_length_le (by omega), List.take_of_length_le (by rw [← HL.out]; omega)] at h1
        simp [eqL, h1]
  · have hl' : ((xs.length : Int) != (ys.length : Int)) = true := by simp; omega
    have hne : eqL xs ys = false := by
      simp only [eqL, decide_eq_false_iff_not]
      intro e
      exact hl (by rw [e])
    have HN := Lib.hid hne
    clear hl hne
    go_enter Try.func32, Try.ntmps32
    go_wp2_with fail
    go_ret
    exact ⟨ret_bool HN.out.symm, Below.refl _ _⟩

theorem pSameO_any (n m : Int) (a b : Option Addr) (xs ys : List Int) (ca cb : Nat) (w : World) (hx : Rd w a xs) (hy : Rd w b ys) :
    Calls Try.prog 13 #[.agg #[.int .i64 n, .slice a xs.length ca], .agg #[.int .i64 m, .slice b ys.length cb]] w fun e w' => e = .returned (.bool (eqO n xs m ys)) ∧ Below w.heap.size w w' := by
  by_cases hn : n = m
  · have hn' : (n == m) = true := by simp [hn]
    have HO : Hid (eqO n xs m ys = eqL xs ys) := by simp [Hid, eqO, hn]
    clear hn
    go_enter Try.func13, Try.ntmps13
    go_wp2_with fail
    refine (pSame_any _ _ xs ys _ _ _ (hx.below (by repeat (first | exact Below.refl _ _ | assumption | refine Below.alloc ?_ (by first | exact Nat.le_refl _ | (simp only [World.size_alloc, World.size_setCell, World.size_drew]; omega) | omega) _ | refine Below.setCell ?_ (by first | exact Nat.le_refl _ | (simp only [World.size_alloc, World.size_setCell, World.size_drew]; omega) | omega) _ | refine Below.drew ?_))) (hy.below (by repeat (first | exact Below.refl _ _ | assumption | refine Below.alloc ?_ (by first | exact Nat.le_refl _ | (simp only [World.size_alloc, World.size_setCell, World.size_drew]; omega) | omega) _ | refine Below.setCell ?_ (by first | exact Nat.le_refl _ | (simp only [World.size_alloc, World.size_setCell, World.size_drew]; omega) | omega) _ | refine Below.drew ?_)))).mono ?_
    rintro e w1 ⟨rfl, hb⟩
    go_wp2_with fail
    go_ret
    exact ⟨ret_bool HO.out.symm, Below.trans (by repeat (first | exact Below.refl _ _ | assumption | refine Below.alloc ?_ (by first | exact Nat.le_refl _ | (simp only [World.size_alloc, World.size_setCell, World.size_drew]; omega) | omega) _ | refine Below.setCell ?_ (by first | exact Nat.le_refl _ | (simp only [World.size_alloc, World.size_setCell, World.size_drew]; omega) | omega) _ | refine Below.drew ?_)) (hb.mono (by first | (simp only [World.size_alloc, World.size_setCell, World.size_drew]; omega) | omega))⟩
  · have hn' : (n == m) = false := by simp [hn]
    have HO : Hid (eqO n xs m ys = false) := by simp [Hid, eqO, hn]
    clear hn
    go_enter Try.func13, Try.ntmps13
    go_wp2_with fail
    go_ret
    exact ⟨ret_bool HO.out.symm, (by repeat (first | exact Below.refl _ _ | assumption | refine Below.alloc ?_ (by first | exact Nat.le_refl _ | (simp only [World.size_alloc, World.size_setCell, World.size_drew]; omega) | omega) _ | refine Below.setCell ?_ (by first | exact Nat.le_refl _ | (simp only [World.size_alloc, World.size_setCell, World.size_drew]; omega) | omega) _ | refine Below.drew ?_))⟩

theorem pIn_any (s i : Int) (w : World) (h0 : 0 ≤ s) (h1 : s ≤ 9223372036854775807) (hi : 0 ≤ i) :
    Calls Try.prog 28 #[.int .i64 s, .int .i64 i] w fun e w' => e = .returned (.bool (hasB s i)) ∧ w = w' := by
  have H := Lib.hid (has_mod h0 h1 hi)
  go_enter Try.func28, Try.ntmps28
  go_wp2
  go_ret
  exact ⟨ret_bool H.out, rfl⟩

theorem pIn_is {s i : Int} {b : Bool} (h : ∀ W, Calls Try.prog 28 #[.int .i64 s, .int .i64 i] W fun e w' => e = .returned (.bool b) ∧ W = w') (w : World) (m : Nat) :
    Calls Try.prog 28 #[.int .i64 s, .int .i64 i] (w.drewN m) fun e w' => e = .returned (.bool b) ∧ ∃ k, w' = w.drewN k :=
  Calls.quiet_of_same ((h (w.drewN m)).mono (fun e w' hh => ⟨hh.1, hh.2.symm⟩))

/-- are the two inputs together within the bound? -/
theorem big_any (a b : Option Addr) (n m c1 c2 : Nat) (w : World) (hn : n ≤ 9223372036854775807) (hm : m ≤ 9223372036854775807) :
    Calls Try.prog 9 #[.slice a n c1, .slice b m c2] w fun e w' => ((e = .returned (.bool true)) ∨ (e = .returned (.bool false) ∧ n ≤ 1048576 ∧ m ≤ 1048576)) ∧ w = w' := by
  by_cases h1 : 1048576 < (n : Int)
  · go_enter Try.func9, Try.ntmps9
    go_wp2_with fail
    go_ret
    exact ⟨.inl rfl, rfl⟩
  · by_cases h2 : 1048576 - (n : Int) < (m : Int)
    · go_enter Try.func9, Try.ntmps9
      go_wp2_with fail
      go_ret
      exact ⟨.inl rfl, rfl⟩
    · have h9 : n ≤ 1048576 ∧ m ≤ 1048576 := by omega
      go_enter Try.func9, Try.ntmps9
      go_wp2_with fail
      go_ret
      first | exact ⟨.inr ⟨rfl, h9.1, h9.2⟩, rfl⟩ | exact ⟨.inr rfl, rfl⟩

theorem ends_any (x y : Int) (w : World) :
    Calls Try.prog 77 #[.agg #[.int .i64 x, .int .i64 y]] w fun e w' => e = .returned (.agg #[.int .i64 x, .int .i64 y]) ∧ Below w.heap.size w w' := by
  go_enter Try.func77, Try.ntmps77
  go_wp2
  refine bodyPost_ret (v := .agg #[.int .i64 x, .int .i64 y]) (by simp [results, Try.results77, go_sem]) rfl ⟨rfl, ?_⟩
  exact (by repeat (first | exact Below.refl _ _ | assumption | refine Below.alloc ?_ (by first | exact Nat.le_refl _ | (simp only [World.size_alloc, World.size_setCell, World.size_drew]; omega) | omega) _ | refine Below.setCell ?_ (by first | exact Nat.le_refl _ | (simp only [World.size_alloc, World.size_setCell, World.size_drew]; omega) | omega) _ | refine Below.drew ?_))

theorem isWrong_any (x y : Int) (w : World) :
    Calls Try.prog 67 #[.agg #[.int .i64 x, .int .i64 y]] w fun e w' => e = .returned (.bool (wrongB x y)) ∧ Below w.heap.size w w' := by
  by_cases h1 : x < -1000
  · have H : Hid (wrongB x y = true) := by simp [Hid, wrongB, h1]
    go_enter Try.func67, Try.ntmps67
    go_wp2
    go_ret
    exact ⟨ret_bool H.out.symm, (by repeat (first | exact Below.refl _ _ | assumption | refine Below.alloc ?_ (by first | exact Nat.le_refl _ | (simp only [World.size_alloc, World.size_setCell, World.size_drew]; omega) | omega) _ | refine Below.setCell ?_ (by first | exact Nat.le_refl _ | (simp only [World.size_alloc, World.size_setCell, World.size_drew]; omega) | omega) _ | refine Below.drew ?_))⟩
  · by_cases h2 : y < x
    · have H : Hid (wrongB x y = true) := by simp [Hid, wrongB, h2]
      go_enter Try.func67, Try.ntmps67
      go_wp2
      go_ret
      exact ⟨ret_bool H.out.symm, (by repeat (first | exact Below.refl _ _ | assumption | refine Below.alloc ?_ (by first | exact Nat.le_refl _ | (simp only [World.size_alloc, World.size_setCell, World.size_drew]; omega) | omega) _ | refine Below.setCell ?_ (by first | exact Nat.le_refl _ | (simp only [World.size_alloc, World.size_setCell, World.size_drew]; omega) | omega) _ | refine Below.drew ?_))⟩
    · have H : Hid (wrongB x y = decide (1000 < y)) := by simp [Hid, wrongB, h1, h2]
      go_enter Try.func67, Try.ntmps67
      go_wp2
      go_ret
      exact ⟨ret_bool (by rw [H.out]), (by repeat (first | exact Below.refl _ _ | assumption | refine Below.alloc ?_ (by first | exact Nat.le_refl _ | (simp only [World.size_alloc, World.size_setCell, World.size_drew]; omega) | omega) _ | refine Below.setCell ?_ (by first | exact Nat.le_refl _ | (simp only [World.size_alloc, World.size_setCell, World.size_drew]; omega) | omega) _ | refine Below.drew ?_))⟩

/-- the first wrong pair, or -1 -/
def idxW (cs : List Int) (n : Nat) : Int := match (List.range n).find? (fun k => wrongB (lft cs k) (rgt cs k)) with | some k => (k : Int) | none => -1
theorem idxW_at {cs : List Int} {n k : Nat} (hk : k < n) (h : wrongB (lft cs k) (rgt cs k) = true) (hb : ∀ j, j < k → wrongB (lft cs j) (rgt cs j) = false) : idxW cs n = (k : Int) := by
  have : (List.range n).find? (fun k => wrongB (lft cs k) (rgt cs k)) = some k := by
    rw [List.find?_range_eq_some]
    exact ⟨h, by simpa using hk, fun j hj => by simp [hb j hj]⟩
  rw [idxW, this]
theorem idxW_none {cs : List Int} {n : Nat} (h : ∀ j, j < n → wrongB (lft cs j) (rgt cs j) = false) : idxW cs n = -1 := by
  have : (List.range n).find? (fun k => wrongB (lft cs k) (rgt cs k)) = none := by
    rw [List.find?_eq_none]
    intro x hx
    simp [h x (by simpa using hx)]
  rw [idxW, this]
theorem indexWrong_any (a : Option Addr) (cs : List Int) (n cap : Nat) (w : World) (hx : Rd w a cs) (hl : cs.length = n * 2) (hn : n ≤ 1048576) :
    Calls Try.prog 112 #[.slice a n cap, .func (.func 67) #[] #[]] w fun e w' => e = .returned (.int .i64 (idxW cs n)) ∧ Below w.heap.size w w' := by
  have HL := Lib.hid hl
  clear hl
  go_enter Try.func112, Try.ntmps112
  go_wp2_with fail
  go_loopw [8] (fun i wr => ∃ k : Nat, k ≤ n ∧ i = .int .i64 k ∧ (∀ j, j < k → wrongB (lft cs j) (rgt cs j) = false) ∧ Below w.heap.size w wr) (fun i _ => n - (intOf i).toNat)
  case atStart => exact ⟨0, Nat.zero_le _, rfl, fun j hj => by omega, Below.refl _ _⟩
  case round =>
    obtain ⟨k, hk, rfl, hall, hb⟩ := hrel
    have HA := Lib.hid hall
    clear hall
    by_cases hlt : k < n
    · obtain ⟨b, off, rfl, hbl, hc1, hc2⟩ := (hx.below hb).pair HL.out hlt
      cases hw : wrongB (lft cs k) (rgt cs k)
      · have HW := Lib.hid hw
        go_wp2_with fail
        refine (isWrong_any _ _ _).mono ?_
        rw [HW.out]
        rintro e w2 ⟨rfl, hb2⟩
        have bw2 := hb.trans (hb2.mono hb.size)
        go_wp2_with fail
        go_roundw
        case rel =>
          refine ⟨k + 1, by omega, by go_num, fun j hj => ?_, bw2⟩
          by_cases e : j = k
          · rw [e]; exact HW.out
          · exact HA.out j (by omega)
        case measure => simp [intOf]; omega
      · have HI := Lib.hid (idxW_at hlt hw HA.out)
        have HW := Lib.hid hw
        go_wp2_with fail
        refine (isWrong_any _ _ _).mono ?_
        rw [HW.out]
        rintro e w2 ⟨rfl, hb2⟩
        have bw2 := hb.trans (hb2.mono hb.size)
        go_wp2_with fail
        go_ret
        exact ⟨ret_int HI.out.symm, bw2⟩
    · obtain rfl : k = n := by omega
      have HI := Lib.hid (idxW_none HA.out)
      go_wp2_with fail
      go_ret
      exact ⟨ret_int HI.out.symm, hb⟩
theorem containsWrong_any (a : Option Addr) (cs : List Int) (n cap : Nat) (w : World) (hx : Rd w a cs) (hl : cs.length = n * 2) (hn : n ≤ 1048576) :
    Calls Try.prog 66 #[.slice a n cap, .func (.func 67) #[] #[]] w fun e w' => e = .returned (.bool (decide (0 ≤ idxW cs n))) ∧ Below w.heap.size w w' := by
  go_enter Try.func66, Try.ntmps66
  go_wp2_with fail
  refine (indexWrong_any _ _ _ _ _ hx hl hn).mono ?_
  rintro e w2 ⟨rfl, hb2⟩
  clear hl
  go_wp2_with fail
  go_ret
  exact ⟨rfl, hb2⟩
theorem good_idx {cs : List Int} {n : Nat} (h : n ≤ 10) : goodV cs n = !decide (0 ≤ idxW cs n) := by
  cases hg : goodV cs n
  · have h1 : ∃ k, k < n ∧ wrongB (lft cs k) (rgt cs k) = true := by
      apply Classical.byContradiction
      intro hne
      have : goodV cs n = true := goodV_iff.2 ⟨h, fun k hk => by
        cases hw : wrongB (lft cs k) (rgt cs k)
        · rfl
        · exact absurd ⟨k, hk, hw⟩ hne⟩
      rw [hg] at this; cases this
    unfold idxW
    cases hf : (List.range n).find? (fun k => wrongB (lft cs k) (rgt cs k)) with
    | none =>
      obtain ⟨k, hk, hw⟩ := h1
      rw [List.find?_eq_none] at hf
      exact absurd hw (hf k (by simpa using hk))
    | some k => simp
  · rw [idxW_none (goodV_iff.1 hg).2]; rfl

theorem iAreIntervals_any (a : Option Addr) (cs : List Int) (n cap : Nat) (w : World) (hx : Rd w a cs) (hl : cs.length = n * 2) (hn : n ≤ 1048576) :
    Calls Try.prog 14 #[.slice a n cap] w fun e w' => e = .returned (.bool (goodV cs n)) ∧ Below w.heap.size w w' := by
  by_cases h : n ≤ 10
  · have H := Lib.hid (good_idx (cs := cs) h)
    have HL := Lib.hid hl
    clear hl
    go_enter Try.func14, Try.ntmps14
    go_wp2_with fail
    refine (containsWrong_any _ _ _ _ _ hx HL.out hn).mono ?_
    rintro e w2 ⟨rfl, hb2⟩
    go_wp2_with fail
    go_ret
    exact ⟨ret_bool (by rw [H.out]), hb2⟩
  · have H := Lib.hid (goodV_big (cs := cs) (n := n) (by omega))
    clear hl
    go_enter Try.func14, Try.ntmps14
    go_wp2_with fail
    go_ret
    exact ⟨ret_bool H.out.symm, Below.refl _ _⟩

theorem Var2.set0 {w : World} {b : Nat} {u v : Value} (h : Var2 w b u v) (u' : Value) : Var2 (w.setCell ⟨b, 0, none⟩ u') b u' v := by
  refine ⟨⟨by simpa using h.1.1, ?_, ?_⟩, by simpa using h.2.1, by simpa using h.2.2⟩
  · rw [World.cell?_setCell_same _ _ _ h.1.2.1]
  · rw [World.cell?_setCell_other _ _ _ _ (by simp)]; exact h.1.2.2

theorem OwnV.setOther {w : World} {B n : Nat} {v : Value} {cs : List Int} (h : OwnV w B v n cs) {p : Addr} (u : Value) (hne : v.ownBlock = none ∨ v.ownBlock ≠ some p.block) : OwnV (w.setCell p u) B v n cs := h.kept (grown_set w p u) hne

/-- the ends of a pair behind j of them have been stretched -/
def StrAt (x y a b : Int) (i : Value) (wi : World) (B : Nat) : Prop :=
  (i = .int .i64 0 ∧ Var2 wi B (.int .i64 x) (.int .i64 y)) ∨ (i = .int .i64 1 ∧ Var2 wi B (.int .i64 (strI x a b)) (.int .i64 y)) ∨ (i = .int .i64 2 ∧ Var2 wi B (.int .i64 (strI x a b)) (.int .i64 (strI y a b)))
set_option maxRecDepth 100000 in
theorem iStretch_any (a : Option Addr) (cs : List Int) (n cap : Nat) (p q : Int) (w : World) (hx : Rd w a cs) (hl : cs.length = n * 2) (hn : n ≤ 1048576) (hp : -9223372036854775808 ≤ p ∧ p ≤ 9223372036854775807) (hq : -9223372036854775808 ≤ q ∧ q ≤ 9223372036854775807) :
    Calls Try.prog 21 #[.slice a n cap, .int .i64 p, .int .i64 q] w (GotV w (strVN cs p q n) (strVL cs p q n) (strB cs p q n)) := by
  obtain ⟨i0, hi, hz0, hz1, hz2⟩ := info_parts infoIv
  have HL := Lib.hid hl
  clear hl
  cases ho : strOk cs p q n
  · have hb : strB cs p q n = false := by simp [strB, ho]
    have H1 : Hid (strVN cs p q n = 0) := by simp [Hid, strVN, hb]
    have H2 : Hid (strVL cs p q n = []) := by simp [Hid, strVL, hb]
    have HB := Lib.hid hb
    cases hg : goodV cs n
    · have HG := Lib.hid hg
      clear hg hb ho
      go_enter Try.func21, Try.ntmps21
      go_wp2_with fail
      refine (iAreIntervals_any _ _ _ _ _ hx HL.out hn).mono ?_
      rw [HG.out]
      rintro e w1 ⟨rfl, hb1⟩
      go_wp2_with fail
      refine bodyPost_ret (v := .tuple #[.slice none 0 0, .bool false]) (by simp [results, Try.results21, go_sem]) rfl ?_
      exact ⟨none, 0, by rw [H1.out, HB.out], by rw [H1.out, H2.out]; exact OwnV.nil _ _, hb1⟩
    · have hc : p < -1000 ∨ 1000 < p ∨ q < 0 ∨ 1000 < q := by
        apply Classical.byContradiction
        intro hne
        have := strOk_iff.2 (show goodV cs n = true ∧ -1000 ≤ p ∧ p ≤ 1000 ∧ 0 ≤ q ∧ q ≤ 1000 from ⟨hg, by omega, by omega, by omega, by omega⟩)
        rw [ho] at this; cases this
      have HG := Lib.hid hg
      clear hg hb ho
      go_enter Try.func21, Try.ntmps21
      go_wp2_with fail
      refine (iAreIntervals_any _ _ _ _ _ hx HL.out hn).mono ?_
      rw [HG.out]
      rintro e w1 ⟨rfl, hb1⟩
      by_cases h1 : p < -1000
      · clear hc
        go_wp2_with fail
        refine bodyPost_ret (v := .tuple #[.slice none 0 0, .bool false]) (by simp [results, Try.results21, go_sem]) rfl ?_
        exact ⟨none, 0, by rw [H1.out, HB.out], by rw [H1.out, H2.out]; exact OwnV.nil _ _, hb1⟩
      · by_cases h2 : 1000 < p
        · clear hc
          go_wp2_with fail
          refine bodyPost_ret (v := .tuple #[.slice none 0 0, .bool false]) (by simp [results, Try.results21, go_sem]) rfl ?_
          exact ⟨none, 0, by rw [H1.out, HB.out], by rw [H1.out, H2.out]; exact OwnV.nil _ _, hb1⟩
        · by_cases h3 : q < 0
          · clear hc
            go_wp2_with fail
            refine bodyPost_ret (v := .tuple #[.slice none 0 0, .bool false]) (by simp [results, Try.results21, go_sem]) rfl ?_
            exact ⟨none, 0, by rw [H1.out, HB.out], by rw [H1.out, H2.out]; exact OwnV.nil _ _, hb1⟩
          · have h4 : 1000 < q := by omega
            clear hc
            go_wp2_with fail
            refine bodyPost_ret (v := .tuple #[.slice none 0 0, .bool false]) (by simp [results, Try.results21, go_sem]) rfl ?_
            exact ⟨none, 0, by rw [H1.out, HB.out], by rw [H1.out, H2.out]; exact OwnV.nil _ _, hb1⟩
  · have ⟨hg, p0, p1, q0, q1⟩ := strOk_iff.1 ho
    have ⟨hn10, hbd⟩ := goodV_iff.1 hg
    have HB0 : Hid (strB cs p q n = goodV (strVp cs p q n) n) := by simp [Hid, strB, ho]
    have HG := Lib.hid hg
    have HB := Lib.hid hbd
    clear hg hbd ho
    go_enter Try.func21, Try.ntmps21
    go_wp2_with fail
    refine (iAreIntervals_any _ _ _ _ _ hx HL.out hn).mono ?_
    rw [HG.out]
    rintro e w1 ⟨rfl, hb1⟩
    go_wp2_with (at_make; refine wpList_make_full _ rfl (.tmp 34) (.tmp 34) 24 rfl w1.heap.size 40 i0 (.agg #[.int .i64 0, .int .i64 0]) 2 Try.underlying24 hi hz0 hz1 .i64 .i64 _ _ n rfl rfl rfl rfl (by rw [hz2]; omega) (by unfold maxLen; omega) (Nat.le_refl _) ?_; intro w2 hown hgrow)
    have hb2 : Below w1.heap.size w1 w2 := (Below.refl _ _).grown hgrow (Nat.le_refl _) (fun k h => by cases h)
    have hown0 := made_rowP (fun k => strI (lft cs k) p q) (fun k => strI (rgt cs k) p q) hown
    have bw2 := hb1.trans (hb2.mono hb1.size)
    obtain ⟨g, hgz⟩ : ∃ g, g = w1.heap.size := ⟨_, rfl⟩
    rw [← hgz] at hown0 ⊢
    have hgw : w.heap.size ≤ g := by have := hb1.size; omega
    clear hown hgrow hb2 hgz
    go_wp2_with fail
    go_loopw [38] (fun i wr => ∃ k : Nat, k ≤ n ∧ i = .int .i64 k ∧ OwnV wr w.heap.size (.slice (some ⟨g, 0, none⟩) n n) n (rowP (fun k => strI (lft cs k) p q) (fun k => strI (rgt cs k) p q) n k) ∧ Below w.heap.size w wr) (fun i _ => n - (intOf i).toNat)
    case atStart => exact ⟨0, Nat.zero_le _, rfl, hown0.mono hgw, bw2⟩
    case round =>
      obtain ⟨k, hk, rfl, hown, hb⟩ := hrel
      obtain ⟨wo, rfl⟩ : ∃ wo : World, wo = wr := ⟨_, rfl⟩
      by_cases hlt : k < n
      · obtain ⟨b, off, rfl, hbl, hc1, hc2⟩ := (hx.below hb).pair HL.out hlt
        have ⟨hb1', hb2', hb3'⟩ := wrongB_no.1 (HB.out k hlt)
        have hgl := (hown.lt g rfl).2
        have hzr := hb.size
        go_wp2_with fail
        refine (ends_any _ _ _).mono ?_
        rintro e w3 ⟨rfl, hb3⟩
        have ht3 : Below wo.heap.size wo w3 := Below.trans (by repeat (first | exact Below.refl _ _ | assumption | refine Below.alloc ?_ (by first | exact Nat.le_refl _ | (simp only [World.size_alloc, World.size_setCell, World.size_drew]; omega) | omega) _ | refine Below.setCell ?_ (by first | exact Nat.le_refl _ | (simp only [World.size_alloc, World.size_setCell, World.size_drew]; omega) | omega) _ | refine Below.drew ?_)) (hb3.mono (by first | (simp only [World.size_alloc, World.size_setCell, World.size_drew]; omega) | omega))
        have o3 := hown.below ht3 (Nat.le_refl _)
        have bw3 := hb.trans (ht3.mono hb.size)
        have hz3 := ht3.size
        have k0 : (0 : Int) ≤ (k : Int) := by omega
        have k1 : (k : Int) < (n : Int) := by omega
        have n1 : (n : Int) ≤ 10 := by omega
        clear hb3 hc1 hc2 hown
        have j0 : ∀ w, (Instr.index 95 (.agg #[.int .i64 (lft cs k), .int .i64 (rgt cs k)]) (.int .i64 0)).run Try.prog w = .ok (.int .i64 (lft cs k)) w := fun _ => by kernel_rfl
        have j1 : ∀ w, (Instr.index 95 (.agg #[.int .i64 (lft cs k), .int .i64 (rgt cs k)]) (.int .i64 1)).run Try.prog w = .ok (.int .i64 (rgt cs k)) w := fun _ => by kernel_rfl
        have J0 := Lib.hid j0
        have J1 := Lib.hid j1
        clear j0 j1
        go_wp2_with fail
        go_loopw [46] (fun i' wi => StrAt (lft cs k) (rgt cs k) p q i' wi w3.heap.size ∧ OwnV wi w.heap.size (.slice (some ⟨g, 0, none⟩) n n) n (rowP (fun k => strI (lft cs k) p q) (fun k => strI (rgt cs k) p q) n k) ∧ Below w.heap.size w wi) (fun i' _ => 2 - (intOf i').toNat)
        case atStart => exact ⟨.inl ⟨rfl, Var2.new w3 _ _ _⟩, o3.alloc _, (by repeat (first | exact Below.refl _ _ | assumption | refine Below.alloc ?_ (by first | exact Nat.le_refl _ | (simp only [World.size_alloc, World.size_setCell, World.size_drew]; omega) | omega) _ | refine Below.setCell ?_ (by first | exact Nat.le_refl _ | (simp only [World.size_alloc, World.size_setCell, World.size_drew]; omega) | omega) _ | refine Below.drew ?_))⟩
        case round =>
          obtain ⟨hs, hO, hbi⟩ := hrel
          have hne : ∀ j, (Value.slice (some ⟨g, 0, none⟩) n n).ownBlock = none ∨ (Value.slice (some ⟨g, 0, none⟩) n n).ownBlock ≠ some (Addr.mk w3.heap.size j none).block := fun j => .inr (by simp [Value.ownBlock]; omega)
          have HNE := Lib.hid hne
          clear hne
          rcases hs with ⟨rfl, hV⟩ | ⟨rfl, hV⟩ | ⟨rfl, hV⟩
          · have ⟨⟨zV, cV, dV⟩, fV, gV⟩ := hV
            have i0' := J0.out
            by_cases hgt : p < lft cs k
            · have HS := Lib.hid (strI_yes (b := q) hgt)
              go_wp2_with fail
              go_roundw
              case rel =>
                rw [← HS.out]
                exact ⟨.inr (.inl ⟨rfl, hV.set0 _⟩), hO.setOther (p := ⟨w3.heap.size, 0, none⟩) _ (HNE.out 0), hbi.setCell (p := ⟨w3.heap.size, 0, none⟩) (show w.heap.size ≤ w3.heap.size by omega) _⟩
              case measure => simp [intOf]
            · have HS := Lib.hid (strI_no (b := q) hgt)
              go_wp2_with fail
              go_roundw
              case rel => exact ⟨.inr (.inl ⟨rfl, by rw [HS.out]; exact hV⟩), hO, hbi⟩
              case measure => simp [intOf]
          · have ⟨⟨zV, cV, dV⟩, fV, gV⟩ := hV
            have i0' := J1.out
            by_cases hgt : p < rgt cs k
            · have HS := Lib.hid (strI_yes (b := q) hgt)
              go_wp2_with fail
              go_roundw
              case rel =>
                rw [← HS.out]
                exact ⟨.inr (.inr ⟨rfl, hV.set1 _⟩), hO.setOther (p := ⟨w3.heap.size, 1, none⟩) _ (HNE.out 1), hbi.setCell (p := ⟨w3.heap.size, 1, none⟩) (show w.heap.size ≤ w3.heap.size by omega) _⟩
              case measure => simp [intOf]
            · have HS := Lib.hid (strI_no (b := q) hgt)
              go_wp2_with fail
              go_roundw
              case rel => exact ⟨.inr (.inr ⟨rfl, by rw [HS.out]; exact hV⟩), hO, hbi⟩
              case measure => simp [intOf]
          · have ⟨⟨zV, cV, dV⟩, fV, gV⟩ := hV
            have hpl := rowP_len (fun k => strI (lft cs k) p q) (fun k => strI (rgt cs k) p q) hk
            have ⟨c1, f1⟩ := hO.at' (i := k * 2) (by omega)
            have ⟨c2, f2⟩ := hO.at' (i := k * 2 + 1) (by omega)
            have q1' := hO.put (k * 2) (strI (lft cs k) p q)
            have q2 := q1'.1.put (k * 2 + 1) (strI (rgt cs k) p q)
            rw [rowP_next _ _ hlt] at q2
            have P2 := Lib.hid q2.1
            have bw4 := (hbi.setCell (p := ⟨g, k * 2, none⟩) hgw (.int .i64 (strI (lft cs k) p q))).setCell (p := ⟨g, k * 2 + 1, none⟩) hgw (.int .i64 (strI (rgt cs k) p q))
            clear hO q1' q2 hpl HNE
            go_wp2_with fail
            go_roundw
            case rel => exact ⟨k + 1, by omega, by go_num, P2.out, bw4⟩
            case measure => simp [intOf]; omega
      · obtain rfl : k = n := by omega
        rw [rowP_end] at hown
        have hrv : Rd wo (some ⟨g, 0, none⟩) (strVp cs p q k) := hown.rd (by omega)
        cases hg2 : goodV (strVp cs p q k) k
        · have hb2 : strB cs p q k = false := by rw [HB0.out, hg2]
          have H1 : Hid (strVN cs p q k = 0) := by simp [Hid, strVN, hb2]
          have H2 : Hid (strVL cs p q k = []) := by simp [Hid, strVL, hb2]
          have HB2 := Lib.hid hb2
          have HG2 := Lib.hid hg2
          clear hb2 hg2
          go_wp2_with fail
          refine (iAreIntervals_any _ _ _ _ _ hrv (strVp_len _ _ _ _) (by omega)).mono ?_
          rw [HG2.out]
          rintro e w5 ⟨rfl, hb5⟩
          go_wp2_with fail
          refine bodyPost_ret (v := .tuple #[.slice none 0 0, .bool false]) (by simp [results, Try.results21, go_sem]) rfl ?_
          exact ⟨none, 0, by rw [H1.out, HB2.out], by rw [H1.out, H2.out]; exact OwnV.nil _ _, hb.trans (hb5.mono hb.size)⟩
        · have hb2 : strB cs p q k = true := by rw [HB0.out, hg2]
          have H1 : Hid (strVN cs p q k = k) := by simp [Hid, strVN, hb2]
          have H2 : Hid (strVL cs p q k = strVp cs p q k) := by simp [Hid, strVL, hb2]
          have HB2 := Lib.hid hb2
          have HG2 := Lib.hid hg2
          clear hb2 hg2
          go_wp2_with fail
          refine (iAreIntervals_any _ _ _ _ _ hrv (strVp_len _ _ _ _) (by omega)).mono ?_
          rw [HG2.out]
          rintro e w5 ⟨rfl, hb5⟩
          have o5 := hown.below hb5 (Nat.le_refl _)
          go_wp2_with fail
          refine bodyPost_ret (v := .tuple #[.slice (some ⟨g, 0, none⟩) k k, .bool true]) (by simp [results, Try.results21, go_sem]) rfl ?_
          exact ⟨some ⟨g, 0, none⟩, k, by rw [H1.out, HB2.out], by rw [H1.out, H2.out]; exact o5, hb.trans (hb5.mono hb.size)⟩

theorem ivStretched_any (x a b : Int) (w : World) (h0 : -1000 ≤ x) (h1 : x ≤ 1000) (b0 : 0 ≤ b) (b1 : b ≤ 1000) :
    Calls Try.prog 79 #[.int .i64 x, .int .i64 a, .int .i64 b] w fun e w' => e = .returned (.int .i64 (strI x a b)) ∧ w = w' := by
  by_cases h : a < x
  · have H := Lib.hid (strI_yes (b := b) h)
    go_enter Try.func79, Try.ntmps79
    go_wp2
    go_ret
    exact ⟨ret_int H.out.symm, rfl⟩
  · have H := Lib.hid (strI_no (b := b) h)
    go_enter Try.func79, Try.ntmps79
    go_wp2
    go_ret
    exact ⟨ret_int H.out.symm, rfl⟩

set_option maxRecDepth 100000 in
theorem sStretch_any (a : Option Addr) (cs : List Int) (n cap : Nat) (p q : Int) (w : World) (hx : Rd w a cs) (hl : cs.length = n * 2) (hn : n ≤ 1048576) (hp : -9223372036854775808 ≤ p ∧ p ≤ 9223372036854775807) (hq : -9223372036854775808 ≤ q ∧ q ≤ 9223372036854775807) :
    Calls Try.prog 22 #[.slice a n cap, .int .i64 p, .int .i64 q] w (GotV w (strVN cs p q n) (strVL cs p q n) (strB cs p q n)) := by
  obtain ⟨i0, hi, hz0, hz1, hz2⟩ := info_parts infoIv
  have HL := Lib.hid hl
  clear hl
  cases ho : strOk cs p q n
  · have hb : strB cs p q n = false := by simp [strB, ho]
    have H1 : Hid (strVN cs p q n = 0) := by simp [Hid, strVN, hb]
    have H2 : Hid (strVL cs p q n = []) := by simp [Hid, strVL, hb]
    have HB := Lib.hid hb
    cases hg : goodV cs n
    · have HG := Lib.hid hg
      clear hg hb ho
      go_enter Try.func22, Try.ntmps22
      go_wp2_with fail
      refine (ivGood_any _ _ _ _ _ hx HL.out hn).mono ?_
      rw [HG.out]
      rintro e w1 ⟨rfl, hb1⟩
      go_wp2_with fail
      refine bodyPost_ret (v := .tuple #[.slice none 0 0, .bool false]) (by simp [results, Try.results22, go_sem]) rfl ?_
      exact ⟨none, 0, by rw [H1.out, HB.out], by rw [H1.out, H2.out]; exact OwnV.nil _ _, hb1⟩
    · have HG := Lib.hid hg
      cases hip : inB p (-1000) 1000
      · clear hg hb ho
        go_enter Try.func22, Try.ntmps22
        go_wp2_with fail
        refine (ivGood_any _ _ _ _ _ hx HL.out hn).mono ?_
        rw [HG.out]
        rintro e w1 ⟨rfl, hb1⟩
        go_wp2_with (go_at_call 78; refine (l1In_any _ _ _ _).mono ?_; rintro e w' ⟨rfl, rfl⟩)
        refine bodyPost_ret (v := .tuple #[.slice none 0 0, .bool false]) (by simp [results, Try.results22, go_sem]) rfl ?_
        exact ⟨none, 0, by rw [H1.out, HB.out], by rw [H1.out, H2.out]; exact OwnV.nil _ _, hb1⟩
      · have hiq : inB q 0 1000 = false := by
          rw [inB_no]
          have h1 := inB_iff.1 hip
          apply Classical.byContradiction
          intro hne
          have := strOk_iff.2 (show goodV cs n = true ∧ -1000 ≤ p ∧ p ≤ 1000 ∧ 0 ≤ q ∧ q ≤ 1000 from ⟨hg, by omega, by omega, by omega, by omega⟩)
          rw [ho] at this; cases this
        clear hg hb ho
        go_enter Try.func22, Try.ntmps22
        go_wp2_with fail
        refine (ivGood_any _ _ _ _ _ hx HL.out hn).mono ?_
        rw [HG.out]
        rintro e w1 ⟨rfl, hb1⟩
        go_wp2_with (go_at_call 78; refine (l1In_any _ _ _ _).mono ?_; rintro e w' ⟨rfl, rfl⟩)
        refine bodyPost_ret (v := .tuple #[.slice none 0 0, .bool false]) (by simp [results, Try.results22, go_sem]) rfl ?_
        exact ⟨none, 0, by rw [H1.out, HB.out], by rw [H1.out, H2.out]; exact OwnV.nil _ _, hb1⟩
  · have ⟨hg, p0, p1, q0, q1⟩ := strOk_iff.1 ho
    have ⟨hn10, hbd⟩ := goodV_iff.1 hg
    have HB0 : Hid (strB cs p q n = goodV (strVp cs p q n) n) := by simp [Hid, strB, ho]
    have hip : inB p (-1000) 1000 = true := inB_iff.2 ⟨p0, p1⟩
    have hiq : inB q 0 1000 = true := inB_iff.2 ⟨q0, q1⟩
    have HG := Lib.hid hg
    have HB := Lib.hid hbd
    clear hg hbd ho
    go_enter Try.func22, Try.ntmps22
    go_wp2_with fail
    refine (ivGood_any _ _ _ _ _ hx HL.out hn).mono ?_
    rw [HG.out]
    rintro e w1 ⟨rfl, hb1⟩
    go_wp2_with (go_at_call 78; refine (l1In_any _ _ _ _).mono ?_; rintro e w' ⟨rfl, rfl⟩)
    clear hip hiq
    go_loopw [8, 26] (fun v i wr => ∃ k : Nat, k ≤ n ∧ i = .int .i64 k ∧ OwnV wr w.heap.size v k (prs (fun k => strI (lft cs k) p q) (fun k => strI (rgt cs k) p q) k) ∧ Below w.heap.size w wr) (fun _ i _ => n - (intOf i).toNat)
    case atStart => exact ⟨0, Nat.zero_le _, rfl, OwnV.nil _ _, hb1⟩
    case round =>
      obtain ⟨k, hk, rfl, hown, hb⟩ := hrel
      obtain ⟨av, cv, rfl⟩ := hown.form
      by_cases hlt : k < n
      · obtain ⟨b, off, rfl, hbl, hc1, hc2⟩ := (hx.below hb).pair HL.out hlt
        have ⟨hb1', hb2', hb3'⟩ := wrongB_no.1 (HB.out k hlt)
        have hb4' : lft cs k ≤ 1000 := by omega
        have hb5' : -1000 ≤ rgt cs k := by omega
        have hzr := hb.size
        have Hown := Lib.hid (hown.below (w' := (((wr.alloc (.cells #[.int .i64 (lft cs k), .int .i64 (rgt cs k)] 40)).alloc (.cells #[.int .i64 (strI (lft cs k) p q), .int .i64 (strI (rgt cs k) p q)] 40)).drew)) (((Below.refl _ _).alloc (Nat.le_refl _) _).alloc (by simp) _).drew (Nat.le_refl _))
        have hnews := cell_two_new (wr.alloc (.cells #[.int .i64 (lft cs k), .int .i64 (rgt cs k)] 40)) (.int .i64 (strI (lft cs k) p q)) (.int .i64 (strI (rgt cs k) p q)) 40
        simp only [World.size_alloc] at hnews
        have Hnews := Lib.hid hnews
        clear hnews
        go_wp2_with fail
        go_region_law (first | (refine step_append_lies _ (by rfl) _ _ _ (by rfl) w.heap.size 40 i0 (.agg #[.int .i64 0, .int .i64 0]) 2 16 Try.underlying24 hi hz0 hz1 hz2 rfl (by omega) (.slice av k cv) k ((prs (fun k => strI (lft cs k) p q) (fun k => strI (rgt cs k) p q) k).map (Value.int .i64)) (by rfl) Hown.out ⟨wr.heap.size + 1, 0, none⟩ 1 1 [.int .i64 (strI (lft cs k) p q), .int .i64 (strI (rgt cs k) p q)] (by rfl) (by rfl) Hnews.out (two_one _ _) (by omega) (by unfold maxLen; omega) (by omega) (by simp; omega) (wr.heap.size + 2) (by simp) ?_; intro gg cap3 w3 hown3 hgrow hat hlt3) | (go_simp; go_at_call 79; refine (ivStretched_any _ _ _ _ (by assumption) (by assumption) (by assumption) (by assumption)).mono ?_; rintro e w2 ⟨rfl, rfl⟩))
        all_goals
          have hg2 : wr.grownBy w3 (Value.slice av k cv).ownBlock := grown_alloc_set (grown_alloc_set (o := .cells #[.int .i64 (strI (lft cs k) p q), .int .i64 (strI (rgt cs k) p q)] 40) ⟨hgrow.os, hgrow.tape, hgrow.output, hgrow.size, hgrow.block⟩)
          have o3 : OwnV w3 w.heap.size (.slice (some ⟨gg, 0, none⟩) (k + 1) cap3) (k + 1) (prs (fun k => strI (lft cs k) p q) (fun k => strI (rgt cs k) p q) (k + 1)) := by
            unfold OwnV
            rw [prs_succ, List.map_append]
            exact hown3
          have hU := hown.lt
          have bw3 := hb.trans (below_of_grown hg2 (fun c e => by have := hU c e; omega) hb.size)
          clear hown3 hgrow hU hat
          go_wp2_with fail
          go_roundw
          case rel => exact ⟨k + 1, by omega, by go_num, o3, bw3⟩
          case measure => simp [intOf]; omega
      · obtain rfl : k = n := by omega
        have hrv : Rd wr av (strVp cs p q k) := hown.rd (by omega)
        cases hg2 : goodV (strVp cs p q k) k
        · have hb2 : strB cs p q k = false := by rw [HB0.out, hg2]
          have H1 : Hid (strVN cs p q k = 0) := by simp [Hid, strVN, hb2]
          have H2 : Hid (strVL cs p q k = []) := by simp [Hid, strVL, hb2]
          have HB2 := Lib.hid hb2
          have HG2 := Lib.hid hg2
          clear hb2 hg2
          go_wp2_with fail
          refine (ivGood_any _ _ _ _ _ hrv (strVp_len _ _ _ _) (by omega)).mono ?_
          rw [HG2.out]
          rintro e w5 ⟨rfl, hb5⟩
          go_wp2_with fail
          refine bodyPost_ret (v := .tuple #[.slice none 0 0, .bool false]) (by simp [results, Try.results22, go_sem]) rfl ?_
          exact ⟨none, 0, by rw [H1.out, HB2.out], by rw [H1.out, H2.out]; exact OwnV.nil _ _, hb.trans (hb5.mono hb.size)⟩
        · have hb2 : strB cs p q k = true := by rw [HB0.out, hg2]
          have H1 : Hid (strVN cs p q k = k) := by simp [Hid, strVN, hb2]
          have H2 : Hid (strVL cs p q k = strVp cs p q k) := by simp [Hid, strVL, hb2]
          have HB2 := Lib.hid hb2
          have HG2 := Lib.hid hg2
          clear hb2 hg2
          go_wp2_with fail
          refine (ivGood_any _ _ _ _ _ hrv (strVp_len _ _ _ _) (by omega)).mono ?_
          rw [HG2.out]
          rintro e w5 ⟨rfl, hb5⟩
          have o5 := hown.below hb5 (Nat.le_refl _)
          go_wp2_with fail
          refine bodyPost_ret (v := .tuple #[.slice av k cv, .bool true]) (by simp [results, Try.results22, go_sem]) rfl ?_
          exact ⟨av, cv, by rw [H1.out, HB2.out], by rw [H1.out, H2.out]; exact o5, hb.trans (hb5.mono hb.size)⟩

theorem isBefore_any (x y x' y' : Int) (w : World) :
    Calls Try.prog 63 #[.agg #[.int .i64 x, .int .i64 y], .agg #[.int .i64 x', .int .i64 y']] w fun e w' => e = .returned (.bool (decide (y < x'))) ∧ Below w.heap.size w w' := by
  by_cases h : y < x'
  all_goals
    go_enter Try.func63, Try.ntmps63
    go_wp2
    go_ret
    exact ⟨ret_bool (by simp [h]), (by repeat (first | exact Below.refl _ _ | assumption | refine Below.alloc ?_ (by first | exact Nat.le_refl _ | (simp only [World.size_alloc, World.size_setCell, World.size_drew]; omega) | omega) _ | refine Below.setCell ?_ (by first | exact Nat.le_refl _ | (simp only [World.size_alloc, World.size_setCell, World.size_drew]; omega) | omega) _ | refine Below.drew ?_))⟩

theorem cmpBefore_any (a : Option Addr) (cs : List Int) (n cap : Nat) (x y : Int) (w : World) (hx : Rd w a cs) (hl : cs.length = n * 2) (hn : n ≤ 10) :
    Calls Try.prog 62 #[.slice a n cap, .agg #[.int .i64 x, .int .i64 y], .func (.func 63) #[] #[]] w fun e w' => e = .returned (.int .i64 (befTo cs y n)) ∧ Below w.heap.size w w' := by
  have HL := Lib.hid hl
  clear hl
  go_enter Try.func62, Try.ntmps62
  go_wp2_with fail
  go_loopw [7, 12] (fun s i wr => ∃ k : Nat, k ≤ n ∧ i = .int .i64 k ∧ s = .int .i64 (befTo cs y k) ∧ Below w.heap.size w wr ∧ Box2 wr w.heap.size (.int .i64 x) (.int .i64 y)) (fun _ i _ => n - (intOf i).toNat)
  case atStart => exact ⟨0, Nat.zero_le _, rfl, rfl, (by repeat (first | exact Below.refl _ _ | assumption | refine Below.alloc ?_ (by first | exact Nat.le_refl _ | (simp only [World.size_alloc, World.size_setCell, World.size_drew]; omega) | omega) _ | refine Below.setCell ?_ (by first | exact Nat.le_refl _ | (simp only [World.size_alloc, World.size_setCell, World.size_drew]; omega) | omega) _ | refine Below.drew ?_)), Box2.new w _ _ _⟩
  case round =>
    obtain ⟨k, hk, rfl, rfl, hb, hB⟩ := hrel
    have ⟨zB, cB, dB⟩ := hB
    have hzr := hb.size
    by_cases hlt : k < n
    · obtain ⟨b, off, rfl, hbl, hc1, hc2⟩ := (hx.below hb).pair HL.out hlt
      have hbs := befTo_small cs y (k := k) (by omega)
      have hor := Lib.hid (or_bit (b := befTo cs y k) (k := k) (by omega) (by omega))
      clear hbs
      by_cases hlt2 : y < lft cs k
      · have HS : Hid (befTo cs y (k+1) = befTo cs y k ||| 2 ^ k) := by rw [Hid, befTo, if_pos hlt2]
        have hd : decide (y < lft cs k) = true := by simp [hlt2]
        clear hlt2
        go_wp2_with fail
        refine (isBefore_any _ _ _ _ _).mono ?_
        rw [hd]
        rintro e w2 ⟨rfl, hb2⟩
        have ht2 : Below wr.heap.size wr w2 := Below.trans (by repeat (first | exact Below.refl _ _ | assumption | refine Below.alloc ?_ (by first | exact Nat.le_refl _ | (simp only [World.size_alloc, World.size_setCell, World.size_drew]; omega) | omega) _ | refine Below.setCell ?_ (by first | exact Nat.le_refl _ | (simp only [World.size_alloc, World.size_setCell, World.size_drew]; omega) | omega) _ | refine Below.drew ?_)) (hb2.mono (by first | (simp only [World.size_alloc, World.size_setCell, World.size_drew]; omega) | omega))
        have bw2 := hb.trans (ht2.mono hb.size)
        have B2 := hB.below ht2
        clear hb2 cB dB hc1 hc2
        go_wp2_with fail
        go_roundw
        case rel => exact ⟨k + 1, by omega, by go_num, val_int (by rw [hor.out, HS.out]), bw2, B2⟩
        case measure => simp [intOf]; omega
      · have HS : Hid (befTo cs y (k+1) = befTo cs y k) := by rw [Hid, befTo, if_neg hlt2]
        have hd : decide (y < lft cs k) = false := by simp; omega
        clear hlt2
        go_wp2_with fail
        refine (isBefore_any _ _ _ _ _).mono ?_
        rw [hd]
        rintro e w2 ⟨rfl, hb2⟩
        have ht2 : Below wr.heap.size wr w2 := Below.trans (by repeat (first | exact Below.refl _ _ | assumption | refine Below.alloc ?_ (by first | exact Nat.le_refl _ | (simp only [World.size_alloc, World.size_setCell, World.size_drew]; omega) | omega) _ | refine Below.setCell ?_ (by first | exact Nat.le_refl _ | (simp only [World.size_alloc, World.size_setCell, World.size_drew]; omega) | omega) _ | refine Below.drew ?_)) (hb2.mono (by first | (simp only [World.size_alloc, World.size_setCell, World.size_drew]; omega) | omega))
        have bw2 := hb.trans (ht2.mono hb.size)
        have B2 := hB.below ht2
        clear hb2 cB dB hc1 hc2
        go_wp2_with fail
        go_roundw
        case rel => exact ⟨k + 1, by omega, by go_num, val_int (by rw [HS.out]), bw2, B2⟩
        case measure => simp [intOf]; omega
    · obtain rfl : k = n := by omega
      go_wp2_with fail
      go_ret
      exact ⟨rfl, hb⟩

/-- a row of m integers of which the first k are filled, f 0 .. -/
def rowF (f : Nat → Int) (m k : Nat) : List Int := fmap f k ++ List.replicate (m - k) 0
theorem rowF_len (f : Nat → Int) {m k : Nat} (h : k ≤ m) : (rowF f m k).length = m := by simp [rowF, fmap_len]; omega
theorem rowF_set (f : Nat → Int) {m k : Nat} (h : k < m) : (rowF f m k).set k (f k) = rowF f m (k+1) := by
  apply List.ext_getElem?
  intro j
  rw [List.getElem?_set]
  by_cases hj : k = j
  · subst hj
    rw [if_pos rfl, if_pos (by rw [rowF_len f (by omega)]; exact h), rowF, List.getElem?_append_left (by rw [fmap_len]; omega)]
    simp [fmap]
  · simp only [hj, if_false, rowF, List.getElem?_append, fmap_len, List.getElem?_replicate]
    by_cases h1 : j < k
    · have h2 : j < k + 1 := by omega
      simp [h1, h2, fmap]
    · have h2 : ¬ j < k + 1 := by omega
      have h3 : j - k < m - k ↔ j - (k+1) < m - (k+1) := by omega
      simp [h1, h2, h3]
theorem rowF_zero (f : Nat → Int) {m k : Nat} (h : k < m) : (rowF f m k).set k 0 = rowF f m k := by
  apply List.ext_getElem?
  intro j
  rw [List.getElem?_set]
  by_cases hj : k = j
  · subst hj
    rw [if_pos rfl, if_pos (by rw [rowF_len f (by omega)]; exact h), rowF, List.getElem?_append_right (by rw [fmap_len]; omega)]
    rw [fmap_len, Nat.sub_self, List.getElem?_replicate, if_pos (by omega)]
  · simp [hj]
theorem rowF_end (f : Nat → Int) (m : Nat) : rowF f m m = fmap f m := by simp [rowF]
theorem made_row {w1 : World} {B : Nat} {v : Value} {m : Nat} (f : Nat → Int) (h : w1.ownsRow B 3 1 v m (madeCells (Value.int .i64 0).cells (m * 1)).toList) : OwnI w1 B v (rowF f m 0) := by
  unfold OwnI
  rw [rowF_len f (Nat.zero_le _)]
  simpa [Value.cells, toList_madeCells_one, fmap, rowF] using h

theorem iOrderOfIv_any (a : Option Addr) (cs : List Int) (n cap : Nat) (w : World) (hx : Rd w a cs) (hl : cs.length = n * 2) (hn : n ≤ 1048576) :
    Calls Try.prog 11 #[.slice a n cap] w (GotO w (ooN cs n) (ooL cs n) (goodV cs n)) := by
  obtain ⟨i0, hi, hz0, hz1, hz2⟩ := info_parts infoInt
  have HL := Lib.hid hl
  clear hl
  have hx1 := hx.alloc (.cells #[.int .i64 0, .slice none 0 0] 28)
  cases hg : goodV cs n
  · have H1 : Hid (ooN cs n = 0) := by simp [Hid, ooN, hg]
    have H2 : Hid (ooL cs n = []) := by simp [Hid, ooL, hg]
    have HG := Lib.hid hg
    clear hg
    go_enter Try.func11, Try.ntmps11
    go_wp2_with fail
    refine (iAreIntervals_any _ _ _ _ _ hx1 HL.out hn).mono ?_
    rw [HG.out]
    rintro e w1 ⟨rfl, hb1⟩
    have R1 : Var2 w1 w.heap.size (.int .i64 0) (.slice none 0 0) := (Var2.new w _ _ _).below hb1
    have ⟨⟨zR, cR, dR⟩, fR, gR⟩ := R1
    have bw1 : Below w.heap.size w w1 := Below.trans (by repeat (first | exact Below.refl _ _ | assumption | refine Below.alloc ?_ (by first | exact Nat.le_refl _ | (simp only [World.size_alloc, World.size_setCell, World.size_drew]; omega) | omega) _ | refine Below.setCell ?_ (by first | exact Nat.le_refl _ | (simp only [World.size_alloc, World.size_setCell, World.size_drew]; omega) | omega) _ | refine Below.drew ?_)) (hb1.mono (by first | (simp only [World.size_alloc, World.size_setCell, World.size_drew]; omega) | omega))
    clear hb1
    go_wp2_with fail
    have R3 := R1.set (.int .i64 0) (.slice none 0 0)
    refine bodyPost_ret (v := .tuple #[.agg #[.int .i64 0, .slice none 0 0], .bool false]) (by have ⟨⟨_, q1, q2⟩, _, _⟩ := R3; simp [results, Try.results11, go_sem, q1, q2]) rfl ?_
    refine ⟨none, 0, ?_, ?_, ?_⟩
    · rw [H1.out, H2.out]; rfl
    · rw [H2.out]; exact OwnI.nil _ _
    · exact (bw1.setCell (by simp) _).setCell (by simp) _
  · have ⟨hn10, hbd⟩ := goodV_iff.1 hg
    have H1 : Hid (ooN cs n = (n : Int)) := by simp [Hid, ooN, hg]
    have H2 : Hid (ooL cs n = ivo cs n n) := by simp [Hid, ooL, hg]
    have HG := Lib.hid hg
    clear hg hbd
    go_enter Try.func11, Try.ntmps11
    go_wp2_with fail
    refine (iAreIntervals_any _ _ _ _ _ hx1 HL.out hn).mono ?_
    rw [HG.out]
    rintro e w1 ⟨rfl, hb1⟩
    have R1 : Var2 w1 w.heap.size (.int .i64 0) (.slice none 0 0) := (Var2.new w _ _ _).below hb1
    have bw1 : Below w.heap.size w w1 := Below.trans (by repeat (first | exact Below.refl _ _ | assumption | refine Below.alloc ?_ (by first | exact Nat.le_refl _ | (simp only [World.size_alloc, World.size_setCell, World.size_drew]; omega) | omega) _ | refine Below.setCell ?_ (by first | exact Nat.le_refl _ | (simp only [World.size_alloc, World.size_setCell, World.size_drew]; omega) | omega) _ | refine Below.drew ?_)) (hb1.mono (by first | (simp only [World.size_alloc, World.size_setCell, World.size_drew]; omega) | omega))
    have hz1' : w.heap.size + 1 ≤ w1.heap.size := by have := R1.1.1; omega
    clear hb1
    go_wp2_with (at_make; refine wpList_make_full _ rfl (.tmp 12) (.tmp 12) 26 rfl (w.heap.size + 1) 3 i0 (.int .i64 0) 1 Try.underlying26 hi hz0 hz1 .i64 .i64 _ _ n rfl rfl rfl rfl (by rw [hz2]; omega) (by unfold maxLen; omega) hz1' ?_; intro w2 hown hgrow)
    have R2 := R1.kept hgrow (by simp)
    have hb2 : Below w.heap.size w w2 := bw1.grown hgrow bw1.size (fun k h => by cases h)
    have hown0 := made_row (ivE cs n) hown
    obtain ⟨g, hg⟩ : ∃ g, g = w1.heap.size := ⟨_, rfl⟩
    rw [← hg] at hown0 ⊢
    have hgz : w.heap.size + 1 ≤ g := by omega
    clear hown hgrow R1 hg
    go_wp2_with fail
    go_loopw [16] (fun i wr => ∃ k : Nat, k ≤ n ∧ i = .int .i64 k ∧ OwnI wr (w.heap.size + 1) (.slice (some ⟨g, 0, none⟩) n n) (rowF (ivE cs n) n k) ∧ Below w.heap.size w wr ∧ Var2 wr w.heap.size (.int .i64 0) (.slice none 0 0)) (fun i _ => n - (intOf i).toNat)
    case atStart => exact ⟨0, Nat.zero_le _, rfl, hown0, hb2, R2⟩
    case round =>
      obtain ⟨k, hk, rfl, hown, hb, hR⟩ := hrel
      have hzr := hb.size
      by_cases hlt : k < n
      · obtain ⟨b, off, rfl, hbl, hc1, hc2⟩ := (hx.below hb).pair HL.out hlt
        have k0 : (0 : Int) ≤ (k : Int) := by omega
        have k1 : (k : Int) < (n : Int) := by omega
        go_wp2_with fail
        refine (cmpBefore_any _ _ _ _ _ _ _ ((hx.below hb).alloc _) HL.out hn10).mono ?_
        rintro e w3 ⟨rfl, hb3⟩
        have ht3 : Below wr.heap.size wr w3 := Below.trans (by repeat (first | exact Below.refl _ _ | assumption | refine Below.alloc ?_ (by first | exact Nat.le_refl _ | (simp only [World.size_alloc, World.size_setCell, World.size_drew]; omega) | omega) _ | refine Below.setCell ?_ (by first | exact Nat.le_refl _ | (simp only [World.size_alloc, World.size_setCell, World.size_drew]; omega) | omega) _ | refine Below.drew ?_)) (hb3.mono (by first | (simp only [World.size_alloc, World.size_setCell, World.size_drew]; omega) | omega))
        have o3 := hown.below ht3 (Nat.le_refl _)
        have bw3 := hb.trans (ht3.mono hb.size)
        have R3 := hR.below ht3
        have hrl := rowF_len (ivE cs n) hk
        have ⟨ci, fi⟩ := o3.at' hrl.symm (i := k) (by omega)
        have hput := o3.put hrl.symm k (ivE cs n k)
        rw [rowF_set _ hlt] at hput
        have HP := Lib.hid hput.1
        have R4 := R3.kept hput.2 (by simp; omega)
        have bw4 := bw3.setCell (p := ⟨g, k, none⟩) (show w.heap.size ≤ g by omega) (.int .i64 (ivE cs n k))
        have HE : Hid (((befTo cs (rgt cs k) n : Nat) : Int) = ivE cs n k) := rfl
        rw [HE.out]
        clear hput hrl hown o3 hb3 hc1 hc2 R3
        go_wp2_with fail
        go_roundw
        case rel => exact ⟨k + 1, by omega, by go_num, HP.out, bw4, R4⟩
        case measure => simp [intOf]; omega
      · obtain rfl : k = n := by omega
        rw [rowF_end] at hown
        have ho : OwnI wr (w.heap.size + 1) (.slice (some ⟨g, 0, none⟩) k k) (ivo cs k k) := hown
        have ⟨⟨zR, cR, dR⟩, fR, gR⟩ := hR
        clear hown
        go_wp2_with fail
        have R3 := hR.set (.int .i64 (k : Int)) (.slice (some ⟨g, 0, none⟩) k k)
        refine bodyPost_ret (v := .tuple #[.agg #[.int .i64 (k : Int), .slice (some ⟨g, 0, none⟩) k k], .bool true]) (by have ⟨⟨_, q1, q2⟩, _, _⟩ := R3; simp [results, Try.results11, go_sem, q1, q2]) rfl ?_
        refine ⟨some ⟨g, 0, none⟩, k, ?_, ?_, ?_⟩
        · rw [H1.out, H2.out, ivo_len]
        · rw [H2.out, ivo_len]
          exact ((ho.setBelow (p := ⟨w.heap.size, 0, none⟩) (show w.heap.size < w.heap.size + 1 by omega) _).setBelow (p := ⟨w.heap.size, 1, none⟩) (show w.heap.size < w.heap.size + 1 by omega) _).mono (by omega)
        · exact (hb.setCell (p := ⟨w.heap.size, 0, none⟩) (Nat.le_refl _) _).setCell (p := ⟨w.heap.size, 1, none⟩) (Nat.le_refl _) _

/-- a list in order, as the library sorts it -/
def srt (xs : List Int) : List Int := xs.mergeSort fun x y => decide (x ≤ y)
theorem srt_len (xs : List Int) : (srt xs).length = xs.length := List.length_mergeSort xs
theorem srt_mem (xs : List Int) (x : Int) : x ∈ srt xs ↔ x ∈ xs := List.mem_mergeSort
theorem srt_le (xs : List Int) : (srt xs).Pairwise (· ≤ ·) := by
  have h := List.pairwise_mergeSort (le := fun (x y : Int) => decide (x ≤ y)) (fun a b c h1 h2 => by simp only [decide_eq_true_eq] at *; omega) (fun a b => by simp only [Bool.or_eq_true, decide_eq_true_eq]; omega) xs
  exact h.imp (fun h => by simpa using h)



def Sh_lays189_ren : Go.Shelf.Ren := ⟨fun | 189 => 153 | 125 => 173 | 257 => 172 | 128 => 190 | 129 => 191 | 294 => 181 | 295 => 182 | 296 => 183 | 297 => 184 | 298 => 185 | 299 => 186 | 216 => 187 | 300 => 188 | 301 => 189 | 328 => 194 | 329 => 195 | 330 => 196 | 331 => 197 | 332 => 198 | 215 => 199 | 343 => 200 | n => n, fun | 28 => 26 | 3 => 3 | 46 => 155 | 0 => 0 | 51 => 165 | 53 => 81 | 4 => 4 | 183 => 171 | 182 => 170 | 131 => 55 | 5 => 5 | 9 => 9 | 218 => 176 | 222 => 180 | 228 => 182 | 229 => 183 | n => n, fun | n => n⟩
theorem Sh_lays189 : Go.Proofs.Lays.n189 Try.prog Sh_lays189_ren := {
  mixed := by kernel_rfl
  f125 := Try.func173.trans (congrArg some (by kernel_rfl))
  f128 := Try.func190.trans (congrArg some (by kernel_rfl))
  f129 := Try.func191.trans (congrArg some (by kernel_rfl))
  f189 := Try.func153.trans (congrArg some (by kernel_rfl))
  f215 := Try.func199.trans (congrArg some (by kernel_rfl))
  f216 := Try.func187.trans (congrArg some (by kernel_rfl))
  f257 := Try.func172.trans (congrArg some (by kernel_rfl))
  f294 := Try.func181.trans (congrArg some (by kernel_rfl))
  f295 := Try.func182.trans (congrArg some (by kernel_rfl))
  f296 := Try.func183.trans (congrArg some (by kernel_rfl))
  f297 := Try.func184.trans (congrArg some (by kernel_rfl))
  f298 := Try.func185.trans (congrArg some (by kernel_rfl))
  f299 := Try.func186.trans (congrArg some (by kernel_rfl))
  f300 := Try.func188.trans (congrArg some (by kernel_rfl))
  f301 := Try.func189.trans (congrArg some (by kernel_rfl))
  f328 := Try.func194.trans (congrArg some (by kernel_rfl))
  f329 := Try.func195.trans (congrArg some (by kernel_rfl))
  f330 := Try.func196.trans (congrArg some (by kernel_rfl))
  f331 := Try.func197.trans (congrArg some (by kernel_rfl))
  f332 := Try.func198.trans (congrArg some (by kernel_rfl))
  f343 := Try.func200.trans (congrArg some (by kernel_rfl))
  t0 := Try.underlying0
  a0 := Try.isAgg0
  z0 := Try.sizeOf0
  v0 := Try.zeroValue0
  t3 := Try.underlying3
  a3 := Try.isAgg3
  z3 := Try.sizeOf3
  v3 := Try.zeroValue3
  t4 := Try.underlying4
  a4 := Try.isAgg4
  z4 := Try.sizeOf4
  v4 := Try.zeroValue4
  t5 := Try.underlying5
  a5 := Try.isAgg5
  z5 := Try.sizeOf5
  v5 := Try.zeroValue5
  t9 := Try.underlying9
  a9 := Try.isAgg9
  z9 := Try.sizeOf9
  v9 := Try.zeroValue9
  t28 := Try.underlying26
  a28 := Try.isAgg26
  z28 := Try.sizeOf26
  v28 := Try.zeroValue26
  t46 := Try.underlying155
  a46 := Try.isAgg155
  z46 := Try.sizeOf155
  v46 := Try.zeroValue155
  t51 := Try.underlying165
  a51 := Try.isAgg165
  z51 := Try.sizeOf165
  v51 := Try.zeroValue165
  t53 := Try.underlying81
  a53 := Try.isAgg81
  z53 := Try.sizeOf81
  v53 := Try.zeroValue81
  t131 := Try.underlying55
  a131 := Try.isAgg55
  z131 := Try.sizeOf55
  v131 := Try.zeroValue55
  t182 := Try.underlying170
  a182 := Try.isAgg170
  z182 := Try.sizeOf170
  v182 := Try.zeroValue170
  t183 := Try.underlying171
  a183 := Try.isAgg171
  z183 := Try.sizeOf171
  v183 := Try.zeroValue171
  t218 := Try.underlying176
  a218 := Try.isAgg176
  z218 := Try.sizeOf176
  v218 := Try.zeroValue176
  t222 := Try.underlying180
  a222 := Try.isAgg180
  z222 := Try.sizeOf180
  v222 := Try.zeroValue180
  t228 := Try.underlying182
  a228 := Try.isAgg182
  z228 := Try.sizeOf182
  v228 := Try.zeroValue182
  t229 := Try.underlying183
  a229 := Try.isAgg183
  z229 := Try.sizeOf183
  v229 := Try.zeroValue183 }

open Go.Sort Go.RowKit in
theorem Sh_slices_Sort_int (blk off cap : Nat) (zs : List Int) (w : World) (hH : Holds (Value.int .i64) w blk off zs.toArray) (hblk : blk < w.heap.size) (hsz : zs.length < 4611686018427387904) :
    Calls Try.prog 153 #[.slice (some ⟨blk, off, none⟩) zs.length cap] w fun e w' =>
      e = .returned (.tuple #[]) ∧ ∃ n os, w' = grow (putRow (Value.int .i64) (Sort.ahead w n) blk off (zs.mergeSort fun x y => decide (x ≤ y)).toArray) os := Any.slices_Sort_int Sh_lays189 blk off cap zs w hH hblk hsz

open Go.RowKit Go.Sort in
theorem Sh_slices_Sort_int_none (p : Option Addr) (cap : Nat) (w : World) :
    Calls Try.prog 153 #[.slice p 0 cap] w fun e w' => e = .returned (.tuple #[]) ∧ w' = w := Any.slices_Sort_int_none Sh_lays189 p cap w

theorem sortOwn (a : Option Addr) (cap : Nat) (xs : List Int) (B : Nat) (w : World) (hl : xs.length ≤ 1048576) (ho : OwnI w B (.slice a xs.length cap) xs) :
    Calls Try.prog 153 #[.slice a xs.length cap] w fun e w' => e = .returned (.tuple #[]) ∧ OwnI w' B (.slice a (srt xs).length cap) (srt xs) ∧ w.grownBy w' (Value.slice a xs.length cap).ownBlock := by
  rcases ho.2 with ⟨e0, h0⟩ | ⟨g, cap', cur, e0, hbase, hb, h1, h2, h3, h4⟩
  · have hx : xs = [] := List.length_eq_zero_iff.1 h0
    subst hx
    refine (Sh_slices_Sort_int_none a cap w).mono ?_
    rintro e w' ⟨rfl, rfl⟩
    exact ⟨rfl, by rw [show srt [] = [] from by simp [srt]]; exact ho, World.grownBy.refl _ _⟩
  · simp only [Value.slice.injEq] at e0
    obtain ⟨rfl, -, rfl⟩ := e0
    have hh := Go.holds_of_blockI (ss := xs) hb (by simpa using h4)
    refine (Sh_slices_Sort_int g 0 cap xs w hh ((Array.getElem?_eq_some_iff.1 hb).1) (by omega)).mono ?_
    rintro e w' ⟨rfl, nn, os, rfl⟩
    refine ⟨rfl, ?_, Go.grownBy_sortedI _⟩
    have := Go.ownsRow_sortedI (n := nn) (os := os) (ss := xs) (ts := srt xs) (srt_len xs) hbase hb h1 h2 h3
    unfold OwnI
    rw [srt_len]
    exact this

theorem ownsRow_cut {w : World} {B g n cap m : Nat} {t : TypeId} {xs : List Value} (h : w.ownsRow B t 1 (.slice (some ⟨g, 0, none⟩) n cap) n xs) (hm : m ≤ n) : w.ownsRow B t 1 (.slice (some ⟨g, 0, none⟩) m cap) m (xs.take m) := by
  have hl := h.1
  rcases h.2 with ⟨e0, _⟩ | ⟨g', cap', cur, e0, hbase, hb, h1, h2, h3, h4⟩
  · cases e0
  · simp only [Value.slice.injEq, Option.some.injEq, Addr.mk.injEq, and_true] at e0
    obtain ⟨rfl, -, rfl⟩ := e0
    refine ⟨by rw [List.length_take]; omega, .inr ⟨g, cap, cur, rfl, hbase, hb, by omega, h2, h3, ?_⟩⟩
    rw [← h4, List.take_take]
    congr 1
    omega

def Sh_laysNm220_ren : Go.Shelf.Ren := ⟨fun | 20 => 154 | n => n, fun | 22 => 26 | 3 => 3 | 4 => 4 | 0 => 0 | n => n, fun | n => n⟩
theorem Sh_laysNm220 : Go.Proofs.Lays2.n20 Try.prog Sh_laysNm220_ren := {
  mixed := by kernel_rfl
  f20 := Try.func154.trans (congrArg some (by kernel_rfl))
  t0 := Try.underlying0
  a0 := Try.isAgg0
  z0 := Try.sizeOf0
  v0 := Try.zeroValue0
  t3 := Try.underlying3
  a3 := Try.isAgg3
  z3 := Try.sizeOf3
  v3 := Try.zeroValue3
  t4 := Try.underlying4
  a4 := Try.isAgg4
  z4 := Try.sizeOf4
  v4 := Try.zeroValue4
  t22 := Try.underlying26
  a22 := Try.isAgg26
  z22 := Try.sizeOf26
  v22 := Try.zeroValue26
  i3 := by kernel_rfl }

open Go.RowKit Go.Lib Go.Sort in
theorem Sh_slices_Compact_int (blk off cap : Nat) (zs : List Int) (w : World) (hH : Holds (Value.int .i64) w blk off zs.toArray) (hsz : zs.length ≤ 9223372036854775807) (hcap : zs.length ≤ cap) :
    Calls Try.prog 154 #[.slice (some ⟨blk, off, none⟩) zs.length cap] w fun e w' => e = .returned (.slice (some ⟨blk, off, none⟩) (Lib.compact zs).length cap) ∧ ∃ q, w' = putRow (Value.int .i64) (Sort.ahead w q) blk off (Lib.compact zs ++ List.replicate (zs.length - (Lib.compact zs).length) 0).toArray := Any.slices_Compact_int Sh_laysNm220 blk off cap zs w hH hsz hcap

open Go.RowKit Go.Lib Go.Sort in
theorem Sh_slices_Compact_int_empty (a : Option Addr) (cap : Nat) (w : World) :
    Calls Try.prog 154 #[.slice a 0 cap] w fun e w' => e = .returned (.slice a 0 cap) ∧ w' = w := Any.slices_Compact_int_empty Sh_laysNm220 a cap w

theorem compactOwn (a : Option Addr) (cap : Nat) (xs : List Int) (B : Nat) (w : World) (ho : OwnI w B (.slice a xs.length cap) xs) :
    Calls Try.prog 154 #[.slice a xs.length cap] w fun e w' => e = .returned (.slice a (Go.Lib.compact xs).length cap) ∧ OwnI w' B (.slice a (Go.Lib.compact xs).length cap) (Go.Lib.compact xs) ∧ w.grownBy w' (Value.slice a xs.length cap).ownBlock := by
  rcases ho.2 with ⟨e0, h0⟩ | ⟨g, cap', cur, e0, hbase, hb, h1, h2, h3, h4⟩
  · have hx : xs = [] := List.length_eq_zero_iff.1 h0
    subst hx
    refine (Sh_slices_Compact_int_empty a cap w).mono ?_
    rintro e w' ⟨rfl, rfl⟩
    exact ⟨rfl, ho, World.grownBy.refl _ _⟩
  · simp only [Value.slice.injEq] at e0
    obtain ⟨rfl, -, rfl⟩ := e0
    have hh := Go.holds_of_blockI (ss := xs) hb (by simpa using h4)
    have hcl := Go.Lib.compact_length_le xs
    refine (Sh_slices_Compact_int g 0 cap xs w hh (by unfold maxLen at h2; omega) h1).mono ?_
    rintro e w' ⟨rfl, nn, rfl⟩
    have hg := Go.grownBy_sortedI (w := w) (g := g) (n := nn) (os := #[]) (Go.Lib.compact xs ++ List.replicate (xs.length - (Go.Lib.compact xs).length) 0).toArray
    have ho := Go.ownsRow_sortedI (n := nn) (os := #[]) (ss := xs) (ts := Go.Lib.compact xs ++ List.replicate (xs.length - (Go.Lib.compact xs).length) 0) (by rw [List.length_append, List.length_replicate]; omega) hbase hb h1 h2 h3
    rw [Go.Sort.grow_empty] at hg ho
    refine ⟨rfl, ?_, hg⟩
    have hc := ownsRow_cut ho hcl
    have e1 : (List.map (Value.int .i64) (Go.Lib.compact xs ++ List.replicate (xs.length - (Go.Lib.compact xs).length) 0)).take (Go.Lib.compact xs).length = (Go.Lib.compact xs).map (Value.int .i64) := by
      rw [← List.map_take, List.take_left']
      rfl
    rw [e1] at hc
    exact hc

theorem bang (l : List Int) {j : Nat} (h : j < l.length) : l.toArray[j]! = nth l j := by
  rw [getElem!_pos l.toArray j (by simpa using h), nth_get l j h]; simp
theorem cu_inc {l : List Int} (h : l.Pairwise (· ≤ ·)) : ∀ m, m ≤ l.length → Inc (Go.Lib.compactUpTo l.toArray m) ∧ (∀ x, x ∈ Go.Lib.compactUpTo l.toArray m ↔ ∃ j, j < m ∧ nth l j = x)
  | 0, _ => ⟨List.Pairwise.nil, fun x => by simp [Go.Lib.compactUpTo]⟩
  | m+1, hm => by
    obtain ⟨h1, h2⟩ := cu_inc h m (by omega)
    have hle : ∀ i j, i ≤ j → j < l.length → nth l i ≤ nth l j := fun i j hij hj => by
      rw [nth_get _ _ (by omega), nth_get _ _ hj]
      rcases Nat.lt_or_eq_of_le hij with h3 | rfl
      · exact (List.pairwise_iff_getElem.1 h) i j (by omega) hj h3
      · exact Int.le_refl _
    rw [Go.Lib.compactUpTo_succ, bang l (by omega)]
    cases hk : Go.Lib.keeps l.toArray m
    · rw [if_neg (by simp), List.append_nil]
      refine ⟨h1, fun x => ?_⟩
      rw [h2]
      constructor
      · rintro ⟨j, hj, e⟩
        exact ⟨j, by omega, e⟩
      · rintro ⟨j, hj, e⟩
        by_cases e2 : j = m
        · subst e2
          simp only [Go.Lib.keeps, decide_eq_false_iff_not, not_or, ne_eq, Classical.not_not] at hk
          rw [bang l (by omega), bang l (by omega)] at hk
          exact ⟨j - 1, by omega, by rw [← hk.2]; exact e⟩
        · exact ⟨j, by omega, e⟩
    · rw [if_pos rfl]
      constructor
      · unfold Inc
        rw [List.pairwise_append]
        refine ⟨h1, List.pairwise_singleton _ _, fun a ha b hb => ?_⟩
        rw [List.mem_singleton] at hb
        subst hb
        obtain ⟨j, hj, rfl⟩ := (h2 a).1 ha
        simp only [Go.Lib.keeps, decide_eq_true_eq] at hk
        rw [bang l (by omega), bang l (by omega)] at hk
        have hne : nth l m ≠ nth l (m - 1) := hk.resolve_left (by omega)
        have := hle j (m - 1) (by omega) (by omega)
        have := hle (m - 1) m (by omega) (by omega)
        omega
      · intro x
        rw [List.mem_append, h2, List.mem_singleton]
        constructor
        · rintro (⟨j, hj, e⟩ | e)
          · exact ⟨j, by omega, e⟩
          · exact ⟨m, by omega, e.symm⟩
        · rintro ⟨j, hj, e⟩
          by_cases e2 : j = m
          · subst e2; exact .inr e.symm
          · exact .inl ⟨j, by omega, e⟩
theorem compact_inc {l : List Int} (h : l.Pairwise (· ≤ ·)) : Inc (Go.Lib.compact l) := (cu_inc h l.length (Nat.le_refl _)).1
theorem compact_mem {l : List Int} (h : l.Pairwise (· ≤ ·)) (x : Int) : x ∈ Go.Lib.compact l ↔ x ∈ l := by
  have := (cu_inc h l.length (Nat.le_refl _)).2 x
  rw [Go.Lib.compact, this]
  constructor
  · rintro ⟨j, hj, rfl⟩
    rw [nth_get _ _ hj]; exact List.getElem_mem _
  · intro hx
    obtain ⟨j, hj, rfl⟩ := List.getElem_of_mem hx
    exact ⟨j, hj, nth_get _ _ hj⟩

theorem belowSet_any (n : Int) (a : Option Addr) (xs : List Int) (cap : Nat) (i : Int) (w : World) (hx : Rd w a xs) (hr : RelP n xs) (hi : 0 ≤ i) :
    Calls Try.prog 114 #[.agg #[.int .i64 n, .slice a xs.length cap], .int .i64 i] w fun e w' => e = .returned (.int .i64 (belowTo xs i xs.length)) ∧ Below w.heap.size w w' := by
  have hx1 := hx.alloc (.cells #[.int .i64 n, .slice a xs.length cap] 28)
  have hn : xs.length ≤ 10 := by have := hr.len; have := hr.n1; omega
  go_enter Try.func114, Try.ntmps114
  go_wp2_with fail
  go_loop [5, 11] (fun s i' => ∃ k : Nat, k ≤ xs.length ∧ i' = .int .i64 k ∧ s = .int .i64 (belowTo xs i k)) (fun _ i => xs.length - (intOf i).toNat)
  case atStart => exact ⟨0, Nat.zero_le _, rfl, rfl⟩
  case round =>
    obtain ⟨k, hk, rfl, rfl⟩ := hrel
    by_cases hlt : k < xs.length
    · obtain ⟨b, off, rfl, hbl, hc⟩ := hx1.cell k hlt
      obtain ⟨b', off', e', hbl', hc'⟩ := hx.cell k hlt
      simp only [Option.some.injEq, Addr.mk.injEq, and_true] at e'
      obtain ⟨rfl, rfl⟩ := e'
      have hpk := hr.pos k hlt
      have hsk : nth xs k ≤ 9223372036854775807 := by have := hr.small k hlt; omega
      have hbs := belowTo_small xs i (k := k) (by omega)
      have hor := Lib.hid (or_bit (b := belowTo xs i k) (k := k) (by omega) (by omega))
      clear hbs
      cases hin : hasB (nth xs k) i
      · go_wp2_with (go_at_call 69; refine (hasElement_any _ _ _ hpk hsk hi).mono ?_; rintro e w' ⟨rfl, rfl⟩)
        go_round
        case rel => exact ⟨k + 1, by omega, by go_num, by simp [belowTo, hin]⟩
        case measure => simp [intOf]; omega
      · go_wp2_with (go_at_call 69; refine (hasElement_any _ _ _ hpk hsk hi).mono ?_; rintro e w' ⟨rfl, rfl⟩)
        go_round
        case rel => exact ⟨k + 1, by omega, by go_num, val_int (by rw [hor.out]; simp [belowTo, hin])⟩
        case measure => simp [intOf]; omega
    · obtain rfl : k = xs.length := by omega
      go_wp2_with fail
      go_ret
      exact ⟨rfl, (by repeat (first | exact Below.refl _ _ | assumption | refine Below.alloc ?_ (by first | exact Nat.le_refl _ | (simp only [World.size_alloc, World.size_setCell, World.size_drew]; omega) | omega) _ | refine Below.setCell ?_ (by first | exact Nat.le_refl _ | (simp only [World.size_alloc, World.size_setCell, World.size_drew]; omega) | omega) _ | refine Below.drew ?_))⟩

theorem belowSets_any (n : Int) (a : Option Addr) (xs : List Int) (cap : Nat) (w : World) (hx : Rd w a xs) (hr : RelP n xs) :
    Calls Try.prog 152 #[.agg #[.int .i64 n, .slice a xs.length cap]] w fun e w' => ∃ a' cap', e = .returned (.slice a' xs.length cap') ∧ OwnI w' w.heap.size (.slice a' xs.length cap') (belows xs xs.length) ∧ Below w.heap.size w w' := by
  obtain ⟨i0, hi, hz0, hz1, hz2⟩ := info_parts infoInt
  have hn0 := hr.n0
  have hn1 := hr.n1
  obtain rfl : n = (xs.length : Int) := hr.len.symm
  have hn : xs.length ≤ 10 := by omega
  go_enter Try.func152, Try.ntmps152
  go_wp2_with (at_make; refine wpList_make_full _ rfl (.tmp 6) (.tmp 6) 26 rfl (w.heap.size + 1) 3 i0 (.int .i64 0) 1 Try.underlying26 hi hz0 hz1 .i64 .i64 _ _ xs.length rfl rfl rfl rfl (by rw [hz2]; omega) (by unfold maxLen; omega) (by simp) ?_; intro w1 hown hgrow)
  have hb0 : Below w.heap.size w w1 := ((Below.refl _ _).alloc (Nat.le_refl _) _).grown hgrow (by simp) (fun k h => by cases h)
  have hown0 := made_ints (fun i => ((belowTo xs i xs.length : Nat) : Int)) hown
  have B1 : Box2 w1 w.heap.size (.int .i64 (xs.length : Int)) (.slice a xs.length cap) := (Box2.new w _ _ _).kept hgrow (by simp)
  have hx1 : Rd w1 a xs := hx.below hb0
  clear hown hgrow
  simp only [World.size_alloc] at *
  have hz : w.heap.size + 1 < w1.heap.size := by
    have := (World.ownsRow.lt hown0 (w.heap.size + 1) rfl).2
    omega
  go_wp2_with fail
  go_loopw [10] (fun i wr => ∃ k : Nat, k ≤ xs.length ∧ i = .int .i64 k ∧ wr.ownsRow (w.heap.size + 1) 3 1 (.slice (some ⟨w.heap.size + 1, 0, none⟩) xs.length xs.length) xs.length ((fmap (fun i => ((belowTo xs i xs.length : Nat) : Int)) k ++ List.replicate (xs.length - k) (0:Int)).map (Value.int .i64)) ∧ Below w.heap.size w wr ∧ Box2 wr w.heap.size (.int .i64 (xs.length : Int)) (.slice a xs.length cap)) (fun i _ => xs.length - (intOf i).toNat)
  case atStart => exact ⟨0, Nat.zero_le _, rfl, hown0, hb0, B1⟩
  case round =>
    obtain ⟨k, hk, rfl, hown, hb, hB⟩ := hrel
    have ⟨zr, cr, dr⟩ := hB
    by_cases hlt : k < xs.length
    · go_wp2_with fail
      refine (belowSet_any _ _ _ _ _ _ (hx.below hb) hr (by omega)).mono ?_
      rintro e w2 ⟨rfl, hb2⟩
      have hown2 : w2.ownsRow (w.heap.size + 1) 3 1 (.slice (some ⟨w.heap.size + 1, 0, none⟩) xs.length xs.length) xs.length _ := World.ownsRow.kept hown (below_grown hb2 (Nat.le_refl _) none) (.inr (by simp [Value.ownBlock]))
      have hst := World.ownsRow.stored hown2 k (.int .i64 ((belowTo xs k xs.length : Nat) : Int))
      rw [fill_step (fun i => ((belowTo xs i xs.length : Nat) : Int)) xs.length k hlt] at hst
      have hcc := World.ownsRow.cellAt hown2 k (by omega)
      have hfr := World.ownsRow.frozenAt hown2 k
      have hcc' : ∃ u, w2.cell? ⟨w.heap.size + 1, k, none⟩ = some u := by
        rw [hcc]
        exact ⟨_, List.getElem?_eq_getElem (by simp [fmap_len]; omega)⟩
      obtain ⟨u, hu⟩ := hcc'
      have hB2 := hB.below hb2
      have hB3 := hB2.kept hst.2 (by simp)
      have hbw := hb.trans (hb2.mono hb.size)
      have Hst := Lib.hid hst
      clear hst hcc hown hown2 hb2
      go_wp2_with fail
      go_roundw
      case rel => exact ⟨k + 1, by omega, by go_num, Hst.out.1, hbw.setCell (by simp) _, hB3⟩
      case measure => simp [intOf]; omega
    · obtain rfl : k = xs.length := by omega
      go_wp2_with fail
      go_ret
      rw [fill_end] at hown
      refine ⟨_, _, rfl, OwnI.mono (B := w.heap.size + 1) ?_ (by omega), hb⟩
      show World.ownsRow _ _ _ _ _ _ _
      rw [belows_len]
      exact hown

theorem sets_eq (xs : List Int) : Go.Lib.compact (srt (belows xs xs.length)) = sets xs := by
  refine inc_ext (compact_inc (srt_le _)) (setsTo_inc xs _) (fun x => ?_)
  rw [compact_mem (srt_le _), srt_mem, sets, setsTo_mem]
  simp only [belows, fmap, List.mem_map, List.mem_range]
  constructor
  · rintro ⟨j, hj, e⟩
    exact ⟨j, hj, e.symm⟩
  · rintro ⟨j, hj, e⟩
    exact ⟨j, hj, e.symm⟩
theorem lowerSets_any (n : Int) (a : Option Addr) (xs : List Int) (cap : Nat) (w : World) (hx : Rd w a xs) (hr : RelP n xs) :
    Calls Try.prog 113 #[.agg #[.int .i64 n, .slice a xs.length cap]] w fun e w' => ∃ a' cap', e = .returned (.slice a' (sets xs).length cap') ∧ OwnI w' w.heap.size (.slice a' (sets xs).length cap') (sets xs) ∧ Below w.heap.size w w' := by
  have hx1 := hx.alloc (.cells #[.int .i64 n, .slice a xs.length cap] 28)
  have HE := Lib.hid (sets_eq xs)
  go_enter Try.func113, Try.ntmps113
  go_wp2_with fail
  refine (belowSets_any _ _ _ _ _ hx1 hr).mono ?_
  rintro e w1 ⟨a1, cap1, rfl, ho1, hb1⟩
  have bw1 : Below w.heap.size w w1 := Below.trans (by repeat (first | exact Below.refl _ _ | assumption | refine Below.alloc ?_ (by first | exact Nat.le_refl _ | (simp only [World.size_alloc, World.size_setCell, World.size_drew]; omega) | omega) _ | refine Below.setCell ?_ (by first | exact Nat.le_refl _ | (simp only [World.size_alloc, World.size_setCell, World.size_drew]; omega) | omega) _ | refine Below.drew ?_)) (hb1.mono (by first | (simp only [World.size_alloc, World.size_setCell, World.size_drew]; omega) | omega))
  have o1 : OwnI w1 w.heap.size (.slice a1 (belows xs xs.length).length cap1) (belows xs xs.length) := by
    rw [belows_len]; exact ho1.mono (by simp)
  clear hb1 ho1
  go_wp2_with fail
  have hs := sortOwn a1 cap1 (belows xs xs.length) w.heap.size w1 (by rw [belows_len]; have := hr.len; have := hr.n1; omega) o1
  rw [belows_len] at hs
  refine hs.mono ?_
  rintro e w2 ⟨rfl, ho2, hg2⟩
  clear hs
  have hU := o1.lt
  rw [belows_len] at hU
  have bw2 := bw1.trans (below_of_grown hg2 (fun b e => (hU b e).1) bw1.size)
  have hsl : (srt (belows xs xs.length)).length = xs.length := by rw [srt_len, belows_len]
  have HSL := Lib.hid hsl
  clear hg2 hU o1 hsl
  go_wp2_with fail
  have hc := compactOwn a1 cap1 (srt (belows xs xs.length)) w.heap.size w2 ho2
  rw [HSL.out, HE.out] at hc
  refine hc.mono ?_
  rintro e w3 ⟨rfl, ho3, hg3⟩
  clear hc
  have hU := ho2.lt
  rw [HSL.out] at hU
  have bw3 := bw2.trans (below_of_grown hg3 (fun b e => (hU b e).1) bw2.size)
  clear hg3 hU ho2
  go_wp2_with fail
  go_ret
  exact ⟨a1, cap1, rfl, ho3, bw3⟩

theorem Rd.drop {w : World} {ad : Addr} {xs : List Int} (h : Rd w (some ad) xs) (k : Nat) : Rd w (some (ad.add k)) (xs.drop k) :=
  ⟨Nat.le_trans (by rw [List.length_drop]; omega) h.len, fun j hj => by
    have hj' : k + j < xs.length := by rw [List.length_drop] at hj; omega
    obtain ⟨b, off, e, hl, hc⟩ := h.cell (k + j) hj'
    simp only [Option.some.injEq] at e
    subst e
    refine ⟨b, off + k, by rw [Addr.add_lit], hl, ?_⟩
    rw [Nat.add_assoc, hc]
    simp [nth, List.getD_eq_getElem?_getD, List.getElem?_drop]⟩

end Go.Proofs.Ytdmhjmcljpladaa.stretchedIntervals
