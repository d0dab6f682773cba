/- PROVED: the law FnFourRefuse returns true for every input, and each of its arguments reads afterwards as before. No conditions. -/
import Derived.Test.YtjddjfckflgojaaRows
import Derived.WalkKit
import Derived.WalkSpells
import Derived.WalkLawsBesides
import Derived.Deep.QuietTactic
import Derived.BigQuiet
import Derived.ProofKit
import Derived.OpenShut
import Derived.ShutString
import Derived.ChangeOld
import Derived.Below
import Derived.Lib.SmallJoins
import Derived.Lib.Hide
import Derived.Maps.AppendAt
import Derived.Deep.AppendLies
import Derived.Deep.RegionHeld3
import Derived.Deep.DeepCutAuto
import Derived.StillTail
import Derived.Shelf.Small.Bits
import Derived.Shelf.Small.Wraps
import Derived.Shelf.Strconv.Itoa0
import Derived.Shelf.Sort.Plain
import Derived.Shelf.Slices.Equal
import Derived.Shelf.Slices.CompactI
import Derived.Shelf.Slices.SearchI
import Derived.Shelf.Slices.Cells
import Derived.Shelf.Slices.In.SortNone
import Derived.Shelf.Slices.Empties2
import Derived.Sort.OwnSortedInts
import Derived.Lib.SlicesCompact
import Derived.Lib.RowBridge
import Derived.Laws.MakeOwn
import Derived.Laws.OwnMore
import Derived.Test.YtjddjfckflgojaaFourRefuseP1
namespace Go.Proofs.Ytjddjfckflgojaa.fourRefuse
open Go Go.RowKit
set_option linter.unusedVariables false
set_option linter.unusedSimpArgs false
set_option maxHeartbeats 400000
open Go.Shelf
def isIv (n : Int) (xs : List Int) : Bool := ordB n xs && !(twoF xs).isSome
theorem iIsInterval_any (n : Int) (a : Option Addr) (xs : List Int) (cap : Nat) (w : World) (hn : -9223372036854775808 ≤ n ∧ n ≤ 9223372036854775807) (hx : Rd w a xs) :
    Calls Try.prog 41 #[.agg #[.int .i64 n, .slice a xs.length cap]] w fun e w' => e = .returned (.tuple #[.bool (isIv n xs), .bool (ordB n xs)]) ∧ Below w.heap.size w w' := by
  have hx1 := hx.alloc (.cells #[.int .i64 n, .slice a xs.length cap] 26)
  cases hr : ordB n xs
  · have H1 : Hid (isIv n xs = false) := by simp [Hid, isIv, hr]
    go_enter Try.func41, Try.ntmps41
    go_wp2_with fail
    refine (iIsOrder_any _ _ _ _ _ hn hx1).mono ?_
    rw [hr]
    rintro e w1 ⟨rfl, hb1⟩
    have bw1 : Below w.heap.size w w1 := Below.trans (by repeat (first | exact Below.refl _ _ | assumption | refine Below.alloc ?_ (by first | exact Nat.le_refl _ | (simp only [World.size_alloc, World.size_setCell, World.size_drew]; omega) | omega) _ | refine Below.setCell ?_ (by first | exact Nat.le_refl _ | (simp only [World.size_alloc, World.size_setCell, World.size_drew]; omega) | omega) _ | refine Below.drew ?_)) (hb1.mono (by first | (simp only [World.size_alloc, World.size_setCell, World.size_drew]; omega) | omega))
    go_wp2_with fail
    go_ret2
    exact ⟨ret_bb H1.out.symm rfl, bw1⟩
  · have H1 : Hid (isIv n xs = !(twoF xs).isSome) := by simp [Hid, isIv, hr]
    have H2 : Hid (twoB n xs = (twoF xs).isSome) := by simp [Hid, twoB, hr]
    go_enter Try.func41, Try.ntmps41
    go_wp2_with fail
    refine (iIsOrder_any _ _ _ _ _ hn hx1).mono ?_
    rw [hr]
    rintro e w1 ⟨rfl, hb1⟩
    have A1 : Box2 w1 w.heap.size (.int .i64 n) (.slice a xs.length cap) := (Box2.new w _ _ _).below hb1
    have bw1 : Below w.heap.size w w1 := Below.trans (by repeat (first | exact Below.refl _ _ | assumption | refine Below.alloc ?_ (by first | exact Nat.le_refl _ | (simp only [World.size_alloc, World.size_setCell, World.size_drew]; omega) | omega) _ | refine Below.setCell ?_ (by first | exact Nat.le_refl _ | (simp only [World.size_alloc, World.size_setCell, World.size_drew]; omega) | omega) _ | refine Below.drew ?_)) (hb1.mono (by first | (simp only [World.size_alloc, World.size_setCell, World.size_drew]; omega) | omega))
    have ⟨zA, cA, dA⟩ := A1
    clear hb1 hr
    go_wp2_with fail
    refine (iTwoTwo_any _ _ _ _ _ hn (hx.below bw1)).mono ?_
    rintro e w2 ⟨a2, cap2, rfl, ho2, hb2⟩
    clear ho2
    go_wp2_with fail
    go_ret2
    exact ⟨ret_bb (by rw [H1.out, H2.out]) rfl, bw1.trans (hb2.mono bw1.size)⟩

/-- strictly increasing -/
def Inc (l : List Int) : Prop := l.Pairwise (· < ·)
/-- how many numbers at the head are less than x -/
def putK : List Int → Int → Nat
  | [], _ => 0
  | y :: ys, x => if y < x then putK ys x + 1 else 0
theorem putK_le : ∀ (l : List Int) (x : Int), putK l x ≤ l.length
  | [], _ => Nat.le_refl _
  | y :: ys, x => by
    have := putK_le ys x
    simp only [putK]
    split <;> simp <;> omega
theorem putK_lt : ∀ (l : List Int) (x : Int) (j : Nat), j < putK l x → nth l j < x
  | [], _, j, h => by simp [putK] at h
  | y :: ys, x, j, h => by
    simp only [putK] at h
    split at h
    · rename_i hy
      cases j with
      | zero => simpa [nth] using hy
      | succ j => have := putK_lt ys x j (by omega); simpa [nth] using this
    · omega
theorem putK_ge : ∀ (l : List Int) (x : Int), putK l x < l.length → x ≤ nth l (putK l x)
  | [], _, h => by simp at h
  | y :: ys, x, h => by
    simp only [putK] at h ⊢
    split
    · rename_i hy
      rw [if_pos hy] at h
      have := putK_ge ys x (by simpa using h)
      simpa [nth] using this
    · rename_i hy
      simp [nth]; omega
/-- a list with a number put into it, unless it is there -/
def putL (l : List Int) (x : Int) : List Int := if putK l x < l.length ∧ nth l (putK l x) = x then l else l.take (putK l x) ++ [x] ++ l.drop (putK l x)
theorem putL_len (l : List Int) (x : Int) : (putL l x).length ≤ l.length + 1 := by
  have := putK_le l x
  unfold putL
  split
  · omega
  · simp; omega
theorem putL_mem (l : List Int) (x y : Int) : y ∈ putL l x ↔ y = x ∨ y ∈ l := by
  unfold putL
  split
  · rename_i h
    constructor
    · exact .inr
    · rintro (rfl | h1)
      · rw [← h.2, nth_get _ _ h.1]; exact List.getElem_mem _
      · exact h1
  · rw [List.mem_append, List.mem_append, List.mem_singleton]
    have e : y ∈ l ↔ y ∈ l.take (putK l x) ∨ y ∈ l.drop (putK l x) := by rw [← List.mem_append, List.take_append_drop]
    rw [e]
    constructor
    · rintro ((h | h) | h)
      · exact .inr (.inl h)
      · exact .inl h
      · exact .inr (.inr h)
    · rintro (h | h | h)
      · exact .inl (.inr h)
      · exact .inl (.inl h)
      · exact .inr h
theorem inc_nth {l : List Int} (h : Inc l) {i j : Nat} (hij : i < j) (hj : j < l.length) : nth l i < nth l j := by
  rw [nth_get _ _ (by omega), nth_get _ _ hj]
  exact (List.pairwise_iff_getElem.1 h) i j (by omega) hj hij
theorem putL_inc {l : List Int} (h : Inc l) (x : Int) : Inc (putL l x) := by
  unfold putL
  split
  · exact h
  · rename_i hn
    have hk := putK_le l x
    unfold Inc
    rw [List.append_assoc, List.pairwise_append]
    refine ⟨h.take, ?_, ?_⟩
    · rw [List.singleton_append, List.pairwise_cons]
      refine ⟨fun y hy => ?_, h.drop⟩
      obtain ⟨i, hi, rfl⟩ := List.getElem_of_mem hy
      rw [List.length_drop] at hi
      rw [List.getElem_drop]
      have h1 := putK_ge l x (by omega)
      have h2 : nth l (putK l x) ≠ x := fun e => hn ⟨by omega, e⟩
      have h3 : nth l (putK l x) ≤ nth l (putK l x + i) := by
        cases i with
        | zero => exact Int.le_refl _
        | succ i => exact Int.le_of_lt (inc_nth h (by omega) (by omega))
      rw [← nth_get _ _ (by omega)]
      omega
    · intro a ha b hb
      obtain ⟨i, hi, rfl⟩ := List.getElem_of_mem ha
      rw [List.length_take] at hi
      have h1 := putK_lt l x i (by omega)
      rw [List.getElem_take, ← nth_get _ _ (by omega)]
      rw [List.singleton_append, List.mem_cons] at hb
      rcases hb with rfl | hb
      · exact h1
      · obtain ⟨j, hj, rfl⟩ := List.getElem_of_mem hb
        rw [List.length_drop] at hj
        rw [List.getElem_drop, ← nth_get _ _ (by omega)]
        exact inc_nth h (by omega) (by omega)
/-- strictly increasing lists with the same numbers are the same -/
theorem inc_ext : ∀ {l m : List Int}, Inc l → Inc m → (∀ x, x ∈ l ↔ x ∈ m) → l = m
  | [], [], _, _, _ => rfl
  | [], y :: ys, _, _, h => by have := (h y).2 (by simp); simp at this
  | x :: xs, [], _, _, h => by have := (h x).1 (by simp); simp at this
  | x :: xs, y :: ys, h1, h2, h => by
    unfold Inc at h1 h2
    rw [List.pairwise_cons] at h1 h2
    have e : x = y := by
      have hx := (h x).1 (by simp)
      have hy := (h y).2 (by simp)
      rw [List.mem_cons] at hx hy
      rcases hx with hx | hx
      · exact hx
      · rcases hy with hy | hy
        · exact hy.symm
        · have a := h2.1 x hx
          have b := h1.1 y hy
          omega
    subst e
    congr 1
    refine inc_ext h1.2 h2.2 (fun z => ?_)
    constructor
    · intro hz
      have := (h z).1 (by simp [hz])
      rw [List.mem_cons] at this
      rcases this with rfl | h3
      · exact absurd (h1.1 z hz) (by omega)
      · exact h3
    · intro hz
      have := (h z).2 (by simp [hz])
      rw [List.mem_cons] at this
      rcases this with rfl | h3
      · exact absurd (h2.1 z hz) (by omega)
      · exact h3

/-- the greatest of the first k numbers, or -1 -/
def mostTo (l : List Int) : Nat → Int
  | 0 => -1
  | k+1 => if nth l k < mostTo l k then mostTo l k else nth l k
theorem mostTo_ge (l : List Int) : ∀ k j, j < k → nth l j ≤ mostTo l k
  | 0, j, hj => by omega
  | k+1, j, hj => by
    simp only [mostTo]
    by_cases e : j = k
    · subst e; split <;> omega
    · have := mostTo_ge l k j (by omega)
      split <;> omega
theorem mostTo_le {l : List Int} {x : Int} (hx : -1 ≤ x) : ∀ k, (∀ j, j < k → nth l j ≤ x) → mostTo l k ≤ x
  | 0, _ => hx
  | k+1, h => by
    have h1 := mostTo_le hx k (fun j hj => h j (by omega))
    have h2 := h k (by omega)
    simp only [mostTo]
    split <;> omega

/-- the different lower sets of the first k elements, in order -/
def setsTo (xs : List Int) : Nat → List Int
  | 0 => []
  | k+1 => putL (setsTo xs k) ((belowTo xs (k : Int) xs.length : Nat) : Int)
theorem setsTo_inc (xs : List Int) : ∀ k, Inc (setsTo xs k)
  | 0 => List.Pairwise.nil
  | k+1 => putL_inc (setsTo_inc xs k) _
theorem setsTo_len (xs : List Int) : ∀ k, (setsTo xs k).length ≤ k
  | 0 => Nat.le_refl _
  | k+1 => by
    have := setsTo_len xs k
    have := putL_len (setsTo xs k) ((belowTo xs (k : Int) xs.length : Nat) : Int)
    simp only [setsTo]; omega
theorem setsTo_mem (xs : List Int) (x : Int) : ∀ k, x ∈ setsTo xs k ↔ ∃ j, j < k ∧ x = ((belowTo xs (j : Int) xs.length : Nat) : Int)
  | 0 => by simp [setsTo]
  | k+1 => by
    have ih := setsTo_mem xs x k
    simp only [setsTo]
    rw [putL_mem, ih]
    constructor
    · rintro (h | ⟨j, hj, h⟩)
      · exact ⟨k, by omega, h⟩
      · exact ⟨j, by omega, h⟩
    · rintro ⟨j, hj, h⟩
      by_cases e : j = k
      · subst e; exact .inl h
      · exact .inr ⟨j, by omega, h⟩
/-- the different lower sets -/
def sets (xs : List Int) : List Int := setsTo xs xs.length
theorem sets_len (xs : List Int) : (sets xs).length ≤ xs.length := setsTo_len xs _
theorem setsTo_bd {xs : List Int} (h : xs.length ≤ 10) {k m : Nat} (hm : m < (setsTo xs k).length) : 0 ≤ nth (setsTo xs k) m ∧ nth (setsTo xs k) m < 1024 := by
  have h1 : nth (setsTo xs k) m ∈ setsTo xs k := by rw [nth_get _ _ hm]; exact List.getElem_mem _
  obtain ⟨j, hj, e⟩ := (setsTo_mem xs _ k).1 h1
  have := belowTo_small xs (j : Int) h
  omega
/-- is a set a part of another one, and not equal to it? -/
def lessB (s own : Int) : Bool := s != own && sub s.toNat own.toNat == 0
def lvTo (ss : List Int) (own : Int) : Nat → Nat
  | 0 => 0
  | m+1 => if lessB (nth ss m) own then lvTo ss own m + 1 else lvTo ss own m
theorem lvTo_le (ss : List Int) (own : Int) : ∀ m, lvTo ss own m ≤ m
  | 0 => Nat.le_refl _
  | m+1 => by
    have := lvTo_le ss own m
    simp only [lvTo]
    split <;> omega
/-- the level of an element -/
def lv (xs : List Int) (i : Nat) : Int := ((lvTo (sets xs) ((belowTo xs (i : Int) xs.length : Nat) : Int) (sets xs).length : Nat) : Int)
def levs (xs : List Int) (k : Nat) : List Int := fmap (lv xs) k
theorem levs_len (xs : List Int) (k : Nat) : (levs xs k).length = k := fmap_len _ _
theorem lv_bd (xs : List Int) (i : Nat) : 0 ≤ lv xs i ∧ lv xs i ≤ xs.length := by
  have h1 := lvTo_le (sets xs) ((belowTo xs (i : Int) xs.length : Nat) : Int) (sets xs).length
  have h2 := sets_len xs
  unfold lv; omega

/-- what LowerLevels hands back -/
def levL (n : Int) (xs : List Int) : List Int := if isIv n xs then levs xs xs.length else []
theorem isIv_ord {n : Int} {xs : List Int} (h : isIv n xs = true) : ordB n xs = true := by
  simp only [isIv, Bool.and_eq_true] at h; exact h.1
theorem isIv_two {n : Int} {xs : List Int} (h : isIv n xs = true) : twoF xs = none := by
  simp only [isIv, Bool.and_eq_true, Bool.not_eq_true', Option.isSome_eq_false_iff, Option.isNone_iff_eq_none] at h; exact h.2
theorem levL_len (n : Int) (xs : List Int) : (levL n xs).length ≤ 1048576 := by
  unfold levL
  split
  · rename_i h
    have hp := ord_rel (isIv_ord h)
    rw [levs_len]
    have := hp.len; have := hp.n1; omega
  · simp

/-- a list in order, as the library sorts it -/
def srt (xs : List Int) : List Int := xs.mergeSort fun x y => decide (x ≤ y)
theorem srt_len (xs : List Int) : (srt xs).length = xs.length := List.length_mergeSort xs
theorem srt_mem (xs : List Int) (x : Int) : x ∈ srt xs ↔ x ∈ xs := List.mem_mergeSort
theorem srt_le (xs : List Int) : (srt xs).Pairwise (· ≤ ·) := by
  have h := List.pairwise_mergeSort (le := fun (x y : Int) => decide (x ≤ y)) (fun a b c h1 h2 => by simp only [decide_eq_true_eq] at *; omega) (fun a b => by simp only [Bool.or_eq_true, decide_eq_true_eq]; omega) xs
  exact h.imp (fun h => by simpa using h)



def Sh_lays189_ren : Go.Shelf.Ren := ⟨fun | 189 => 111 | 125 => 124 | 257 => 123 | 128 => 136 | 129 => 137 | 294 => 127 | 295 => 128 | 296 => 129 | 297 => 130 | 298 => 131 | 299 => 132 | 216 => 133 | 300 => 134 | 301 => 135 | 328 => 138 | 329 => 139 | 330 => 140 | 331 => 141 | 332 => 142 | 215 => 143 | 343 => 144 | n => n, fun | 28 => 24 | 3 => 3 | 46 => 96 | 0 => 0 | 51 => 108 | 53 => 59 | 4 => 4 | 183 => 103 | 182 => 102 | 131 => 32 | 5 => 5 | 9 => 9 | 218 => 110 | 222 => 114 | 228 => 116 | 229 => 117 | n => n, fun | n => n⟩
theorem Sh_lays189 : Go.Proofs.Lays.n189 Try.prog Sh_lays189_ren := {
  mixed := by kernel_rfl
  f125 := Try.func124.trans (congrArg some (by kernel_rfl))
  f128 := Try.func136.trans (congrArg some (by kernel_rfl))
  f129 := Try.func137.trans (congrArg some (by kernel_rfl))
  f189 := Try.func111.trans (congrArg some (by kernel_rfl))
  f215 := Try.func143.trans (congrArg some (by kernel_rfl))
  f216 := Try.func133.trans (congrArg some (by kernel_rfl))
  f257 := Try.func123.trans (congrArg some (by kernel_rfl))
  f294 := Try.func127.trans (congrArg some (by kernel_rfl))
  f295 := Try.func128.trans (congrArg some (by kernel_rfl))
  f296 := Try.func129.trans (congrArg some (by kernel_rfl))
  f297 := Try.func130.trans (congrArg some (by kernel_rfl))
  f298 := Try.func131.trans (congrArg some (by kernel_rfl))
  f299 := Try.func132.trans (congrArg some (by kernel_rfl))
  f300 := Try.func134.trans (congrArg some (by kernel_rfl))
  f301 := Try.func135.trans (congrArg some (by kernel_rfl))
  f328 := Try.func138.trans (congrArg some (by kernel_rfl))
  f329 := Try.func139.trans (congrArg some (by kernel_rfl))
  f330 := Try.func140.trans (congrArg some (by kernel_rfl))
  f331 := Try.func141.trans (congrArg some (by kernel_rfl))
  f332 := Try.func142.trans (congrArg some (by kernel_rfl))
  f343 := Try.func144.trans (congrArg some (by kernel_rfl))
  t0 := Try.underlying0
  a0 := Try.isAgg0
  z0 := Try.sizeOf0
  v0 := Try.zeroValue0
  t3 := Try.underlying3
  a3 := Try.isAgg3
  z3 := Try.sizeOf3
  v3 := Try.zeroValue3
  t4 := Try.underlying4
  a4 := Try.isAgg4
  z4 := Try.sizeOf4
  v4 := Try.zeroValue4
  t5 := Try.underlying5
  a5 := Try.isAgg5
  z5 := Try.sizeOf5
  v5 := Try.zeroValue5
  t9 := Try.underlying9
  a9 := Try.isAgg9
  z9 := Try.sizeOf9
  v9 := Try.zeroValue9
  t28 := Try.underlying24
  a28 := Try.isAgg24
  z28 := Try.sizeOf24
  v28 := Try.zeroValue24
  t46 := Try.underlying96
  a46 := Try.isAgg96
  z46 := Try.sizeOf96
  v46 := Try.zeroValue96
  t51 := Try.underlying108
  a51 := Try.isAgg108
  z51 := Try.sizeOf108
  v51 := Try.zeroValue108
  t53 := Try.underlying59
  a53 := Try.isAgg59
  z53 := Try.sizeOf59
  v53 := Try.zeroValue59
  t131 := Try.underlying32
  a131 := Try.isAgg32
  z131 := Try.sizeOf32
  v131 := Try.zeroValue32
  t182 := Try.underlying102
  a182 := Try.isAgg102
  z182 := Try.sizeOf102
  v182 := Try.zeroValue102
  t183 := Try.underlying103
  a183 := Try.isAgg103
  z183 := Try.sizeOf103
  v183 := Try.zeroValue103
  t218 := Try.underlying110
  a218 := Try.isAgg110
  z218 := Try.sizeOf110
  v218 := Try.zeroValue110
  t222 := Try.underlying114
  a222 := Try.isAgg114
  z222 := Try.sizeOf114
  v222 := Try.zeroValue114
  t228 := Try.underlying116
  a228 := Try.isAgg116
  z228 := Try.sizeOf116
  v228 := Try.zeroValue116
  t229 := Try.underlying117
  a229 := Try.isAgg117
  z229 := Try.sizeOf117
  v229 := Try.zeroValue117 }

open Go.Sort Go.RowKit in
theorem Sh_slices_Sort_int (blk off cap : Nat) (zs : List Int) (w : World) (hH : Holds (Value.int .i64) w blk off zs.toArray) (hblk : blk < w.heap.size) (hsz : zs.length < 4611686018427387904) :
    Calls Try.prog 111 #[.slice (some ⟨blk, off, none⟩) zs.length cap] w fun e w' =>
      e = .returned (.tuple #[]) ∧ ∃ n os, w' = grow (putRow (Value.int .i64) (Sort.ahead w n) blk off (zs.mergeSort fun x y => decide (x ≤ y)).toArray) os := Any.slices_Sort_int Sh_lays189 blk off cap zs w hH hblk hsz

open Go.RowKit Go.Sort in
theorem Sh_slices_Sort_int_none (p : Option Addr) (cap : Nat) (w : World) :
    Calls Try.prog 111 #[.slice p 0 cap] w fun e w' => e = .returned (.tuple #[]) ∧ w' = w := Any.slices_Sort_int_none Sh_lays189 p cap w

theorem sortOwn (a : Option Addr) (cap : Nat) (xs : List Int) (B : Nat) (w : World) (hl : xs.length ≤ 1048576) (ho : OwnI w B (.slice a xs.length cap) xs) :
    Calls Try.prog 111 #[.slice a xs.length cap] w fun e w' => e = .returned (.tuple #[]) ∧ OwnI w' B (.slice a (srt xs).length cap) (srt xs) ∧ w.grownBy w' (Value.slice a xs.length cap).ownBlock := by
  rcases ho.2 with ⟨e0, h0⟩ | ⟨g, cap', cur, e0, hbase, hb, h1, h2, h3, h4⟩
  · have hx : xs = [] := List.length_eq_zero_iff.1 h0
    subst hx
    refine (Sh_slices_Sort_int_none a cap w).mono ?_
    rintro e w' ⟨rfl, rfl⟩
    exact ⟨rfl, by rw [show srt [] = [] from by simp [srt]]; exact ho, World.grownBy.refl _ _⟩
  · simp only [Value.slice.injEq] at e0
    obtain ⟨rfl, -, rfl⟩ := e0
    have hh := Go.holds_of_blockI (ss := xs) hb (by simpa using h4)
    refine (Sh_slices_Sort_int g 0 cap xs w hh ((Array.getElem?_eq_some_iff.1 hb).1) (by omega)).mono ?_
    rintro e w' ⟨rfl, nn, os, rfl⟩
    refine ⟨rfl, ?_, Go.grownBy_sortedI _⟩
    have := Go.ownsRow_sortedI (n := nn) (os := os) (ss := xs) (ts := srt xs) (srt_len xs) hbase hb h1 h2 h3
    unfold OwnI
    rw [srt_len]
    exact this

theorem ownsRow_cut {w : World} {B g n cap m : Nat} {t : TypeId} {xs : List Value} (h : w.ownsRow B t 1 (.slice (some ⟨g, 0, none⟩) n cap) n xs) (hm : m ≤ n) : w.ownsRow B t 1 (.slice (some ⟨g, 0, none⟩) m cap) m (xs.take m) := by
  have hl := h.1
  rcases h.2 with ⟨e0, _⟩ | ⟨g', cap', cur, e0, hbase, hb, h1, h2, h3, h4⟩
  · cases e0
  · simp only [Value.slice.injEq, Option.some.injEq, Addr.mk.injEq, and_true] at e0
    obtain ⟨rfl, -, rfl⟩ := e0
    refine ⟨by rw [List.length_take]; omega, .inr ⟨g, cap, cur, rfl, hbase, hb, by omega, h2, h3, ?_⟩⟩
    rw [← h4, List.take_take]
    congr 1
    omega

def Sh_laysNm220_ren : Go.Shelf.Ren := ⟨fun | 20 => 112 | n => n, fun | 22 => 24 | 3 => 3 | 4 => 4 | 0 => 0 | n => n, fun | n => n⟩
theorem Sh_laysNm220 : Go.Proofs.Lays2.n20 Try.prog Sh_laysNm220_ren := {
  mixed := by kernel_rfl
  f20 := Try.func112.trans (congrArg some (by kernel_rfl))
  t0 := Try.underlying0
  a0 := Try.isAgg0
  z0 := Try.sizeOf0
  v0 := Try.zeroValue0
  t3 := Try.underlying3
  a3 := Try.isAgg3
  z3 := Try.sizeOf3
  v3 := Try.zeroValue3
  t4 := Try.underlying4
  a4 := Try.isAgg4
  z4 := Try.sizeOf4
  v4 := Try.zeroValue4
  t22 := Try.underlying24
  a22 := Try.isAgg24
  z22 := Try.sizeOf24
  v22 := Try.zeroValue24
  i3 := by kernel_rfl }

open Go.RowKit Go.Lib Go.Sort in
theorem Sh_slices_Compact_int (blk off cap : Nat) (zs : List Int) (w : World) (hH : Holds (Value.int .i64) w blk off zs.toArray) (hsz : zs.length ≤ 9223372036854775807) (hcap : zs.length ≤ cap) :
    Calls Try.prog 112 #[.slice (some ⟨blk, off, none⟩) zs.length cap] w fun e w' => e = .returned (.slice (some ⟨blk, off, none⟩) (Lib.compact zs).length cap) ∧ ∃ q, w' = putRow (Value.int .i64) (Sort.ahead w q) blk off (Lib.compact zs ++ List.replicate (zs.length - (Lib.compact zs).length) 0).toArray := Any.slices_Compact_int Sh_laysNm220 blk off cap zs w hH hsz hcap

open Go.RowKit Go.Lib Go.Sort in
theorem Sh_slices_Compact_int_empty (a : Option Addr) (cap : Nat) (w : World) :
    Calls Try.prog 112 #[.slice a 0 cap] w fun e w' => e = .returned (.slice a 0 cap) ∧ w' = w := Any.slices_Compact_int_empty Sh_laysNm220 a cap w

theorem compactOwn (a : Option Addr) (cap : Nat) (xs : List Int) (B : Nat) (w : World) (ho : OwnI w B (.slice a xs.length cap) xs) :
    Calls Try.prog 112 #[.slice a xs.length cap] w fun e w' => e = .returned (.slice a (Go.Lib.compact xs).length cap) ∧ OwnI w' B (.slice a (Go.Lib.compact xs).length cap) (Go.Lib.compact xs) ∧ w.grownBy w' (Value.slice a xs.length cap).ownBlock := by
  rcases ho.2 with ⟨e0, h0⟩ | ⟨g, cap', cur, e0, hbase, hb, h1, h2, h3, h4⟩
  · have hx : xs = [] := List.length_eq_zero_iff.1 h0
    subst hx
    refine (Sh_slices_Compact_int_empty a cap w).mono ?_
    rintro e w' ⟨rfl, rfl⟩
    exact ⟨rfl, ho, World.grownBy.refl _ _⟩
  · simp only [Value.slice.injEq] at e0
    obtain ⟨rfl, -, rfl⟩ := e0
    have hh := Go.holds_of_blockI (ss := xs) hb (by simpa using h4)
    have hcl := Go.Lib.compact_length_le xs
    refine (Sh_slices_Compact_int g 0 cap xs w hh (by unfold maxLen at h2; omega) h1).mono ?_
    rintro e w' ⟨rfl, nn, rfl⟩
    have hg := Go.grownBy_sortedI (w := w) (g := g) (n := nn) (os := #[]) (Go.Lib.compact xs ++ List.replicate (xs.length - (Go.Lib.compact xs).length) 0).toArray
    have ho := Go.ownsRow_sortedI (n := nn) (os := #[]) (ss := xs) (ts := Go.Lib.compact xs ++ List.replicate (xs.length - (Go.Lib.compact xs).length) 0) (by rw [List.length_append, List.length_replicate]; omega) hbase hb h1 h2 h3
    rw [Go.Sort.grow_empty] at hg ho
    refine ⟨rfl, ?_, hg⟩
    have hc := ownsRow_cut ho hcl
    have e1 : (List.map (Value.int .i64) (Go.Lib.compact xs ++ List.replicate (xs.length - (Go.Lib.compact xs).length) 0)).take (Go.Lib.compact xs).length = (Go.Lib.compact xs).map (Value.int .i64) := by
      rw [← List.map_take, List.take_left']
      rfl
    rw [e1] at hc
    exact hc

theorem bang (l : List Int) {j : Nat} (h : j < l.length) : l.toArray[j]! = nth l j := by
  rw [getElem!_pos l.toArray j (by simpa using h), nth_get l j h]; simp
theorem cu_inc {l : List Int} (h : l.Pairwise (· ≤ ·)) : ∀ m, m ≤ l.length → Inc (Go.Lib.compactUpTo l.toArray m) ∧ (∀ x, x ∈ Go.Lib.compactUpTo l.toArray m ↔ ∃ j, j < m ∧ nth l j = x)
  | 0, _ => ⟨List.Pairwise.nil, fun x => by simp [Go.Lib.compactUpTo]⟩
  | m+1, hm => by
    obtain ⟨h1, h2⟩ := cu_inc h m (by omega)
    have hle : ∀ i j, i ≤ j → j < l.length → nth l i ≤ nth l j := fun i j hij hj => by
      rw [nth_get _ _ (by omega), nth_get _ _ hj]
      rcases Nat.lt_or_eq_of_le hij with h3 | rfl
      · exact (List.pairwise_iff_getElem.1 h) i j (by omega) hj h3
      · exact Int.le_refl _
    rw [Go.Lib.compactUpTo_succ, bang l (by omega)]
    cases hk : Go.Lib.keeps l.toArray m
    · rw [if_neg (by simp), List.append_nil]
      refine ⟨h1, fun x => ?_⟩
      rw [h2]
      constructor
      · rintro ⟨j, hj, e⟩
        exact ⟨j, by omega, e⟩
      · rintro ⟨j, hj, e⟩
        by_cases e2 : j = m
        · subst e2
          simp only [Go.Lib.keeps, decide_eq_false_iff_not, not_or, ne_eq, Classical.not_not] at hk
          rw [bang l (by omega), bang l (by omega)] at hk
          exact ⟨j - 1, by omega, by rw [← hk.2]; exact e⟩
        · exact ⟨j, by omega, e⟩
    · rw [if_pos rfl]
      constructor
      · unfold Inc
        rw [List.pairwise_append]
        refine ⟨h1, List.pairwise_singleton _ _, fun a ha b hb => ?_⟩
        rw [List.mem_singleton] at hb
        subst hb
        obtain ⟨j, hj, rfl⟩ := (h2 a).1 ha
        simp only [Go.Lib.keeps, decide_eq_true_eq] at hk
        rw [bang l (by omega), bang l (by omega)] at hk
        have hne : nth l m ≠ nth l (m - 1) := hk.resolve_left (by omega)
        have := hle j (m - 1) (by omega) (by omega)
        have := hle (m - 1) m (by omega) (by omega)
        omega
      · intro x
        rw [List.mem_append, h2, List.mem_singleton]
        constructor
        · rintro (⟨j, hj, e⟩ | e)
          · exact ⟨j, by omega, e⟩
          · exact ⟨m, by omega, e.symm⟩
        · rintro ⟨j, hj, e⟩
          by_cases e2 : j = m
          · subst e2; exact .inr e.symm
          · exact .inl ⟨j, by omega, e⟩
theorem compact_inc {l : List Int} (h : l.Pairwise (· ≤ ·)) : Inc (Go.Lib.compact l) := (cu_inc h l.length (Nat.le_refl _)).1
theorem compact_mem {l : List Int} (h : l.Pairwise (· ≤ ·)) (x : Int) : x ∈ Go.Lib.compact l ↔ x ∈ l := by
  have := (cu_inc h l.length (Nat.le_refl _)).2 x
  rw [Go.Lib.compact, this]
  constructor
  · rintro ⟨j, hj, rfl⟩
    rw [nth_get _ _ hj]; exact List.getElem_mem _
  · intro hx
    obtain ⟨j, hj, rfl⟩ := List.getElem_of_mem hx
    exact ⟨j, hj, nth_get _ _ hj⟩

theorem belowSet_any (n : Int) (a : Option Addr) (xs : List Int) (cap : Nat) (i : Int) (w : World) (hx : Rd w a xs) (hr : RelP n xs) (hi : 0 ≤ i) :
    Calls Try.prog 63 #[.agg #[.int .i64 n, .slice a xs.length cap], .int .i64 i] w fun e w' => e = .returned (.int .i64 (belowTo xs i xs.length)) ∧ Below w.heap.size w w' := by
  have hx1 := hx.alloc (.cells #[.int .i64 n, .slice a xs.length cap] 26)
  have hn : xs.length ≤ 10 := by have := hr.len; have := hr.n1; omega
  go_enter Try.func63, Try.ntmps63
  go_wp2_with fail
  go_loop [5, 11] (fun s i' => ∃ k : Nat, k ≤ xs.length ∧ i' = .int .i64 k ∧ s = .int .i64 (belowTo xs i k)) (fun _ i => xs.length - (intOf i).toNat)
  case atStart => exact ⟨0, Nat.zero_le _, rfl, rfl⟩
  case round =>
    obtain ⟨k, hk, rfl, rfl⟩ := hrel
    by_cases hlt : k < xs.length
    · obtain ⟨b, off, rfl, hbl, hc⟩ := hx1.cell k hlt
      obtain ⟨b', off', e', hbl', hc'⟩ := hx.cell k hlt
      simp only [Option.some.injEq, Addr.mk.injEq, and_true] at e'
      obtain ⟨rfl, rfl⟩ := e'
      have hpk := hr.pos k hlt
      have hsk : nth xs k ≤ 9223372036854775807 := by have := hr.small k hlt; omega
      have hbs := belowTo_small xs i (k := k) (by omega)
      have hor := Lib.hid (or_bit (b := belowTo xs i k) (k := k) (by omega) (by omega))
      clear hbs
      cases hin : hasB (nth xs k) i
      · go_wp2_with (go_at_call 60; refine (hasElement_any _ _ _ hpk hsk hi).mono ?_; rintro e w' ⟨rfl, rfl⟩)
        go_round
        case rel => exact ⟨k + 1, by omega, by go_num, by simp [belowTo, hin]⟩
        case measure => simp [intOf]; omega
      · go_wp2_with (go_at_call 60; refine (hasElement_any _ _ _ hpk hsk hi).mono ?_; rintro e w' ⟨rfl, rfl⟩)
        go_round
        case rel => exact ⟨k + 1, by omega, by go_num, val_int (by rw [hor.out]; simp [belowTo, hin])⟩
        case measure => simp [intOf]; omega
    · obtain rfl : k = xs.length := by omega
      go_wp2_with fail
      go_ret
      exact ⟨rfl, (by repeat (first | exact Below.refl _ _ | assumption | refine Below.alloc ?_ (by first | exact Nat.le_refl _ | (simp only [World.size_alloc, World.size_setCell, World.size_drew]; omega) | omega) _ | refine Below.setCell ?_ (by first | exact Nat.le_refl _ | (simp only [World.size_alloc, World.size_setCell, World.size_drew]; omega) | omega) _ | refine Below.drew ?_))⟩

theorem belowSets_any (n : Int) (a : Option Addr) (xs : List Int) (cap : Nat) (w : World) (hx : Rd w a xs) (hr : RelP n xs) :
    Calls Try.prog 57 #[.agg #[.int .i64 n, .slice a xs.length cap]] w fun e w' => ∃ a' cap', e = .returned (.slice a' xs.length cap') ∧ OwnI w' w.heap.size (.slice a' xs.length cap') (belows xs xs.length) ∧ Below w.heap.size w w' := by
  obtain ⟨i0, hi, hz0, hz1, hz2⟩ := info_parts infoInt
  have hn0 := hr.n0
  have hn1 := hr.n1
  obtain rfl : n = (xs.length : Int) := hr.len.symm
  have hn : xs.length ≤ 10 := by omega
  go_enter Try.func57, Try.ntmps57
  go_wp2_with (at_make; refine wpList_make_full _ rfl (.tmp 6) (.tmp 6) 24 rfl (w.heap.size + 1) 3 i0 (.int .i64 0) 1 Try.underlying24 hi hz0 hz1 .i64 .i64 _ _ xs.length rfl rfl rfl rfl (by rw [hz2]; omega) (by unfold maxLen; omega) (by simp) ?_; intro w1 hown hgrow)
  have hb0 : Below w.heap.size w w1 := ((Below.refl _ _).alloc (Nat.le_refl _) _).grown hgrow (by simp) (fun k h => by cases h)
  have hown0 := made_ints (fun i => ((belowTo xs i xs.length : Nat) : Int)) hown
  have B1 : Box2 w1 w.heap.size (.int .i64 (xs.length : Int)) (.slice a xs.length cap) := (Box2.new w _ _ _).kept hgrow (by simp)
  have hx1 : Rd w1 a xs := hx.below hb0
  clear hown hgrow
  simp only [World.size_alloc] at *
  have hz : w.heap.size + 1 < w1.heap.size := by
    have := (World.ownsRow.lt hown0 (w.heap.size + 1) rfl).2
    omega
  go_wp2_with fail
  go_loopw [10] (fun i wr => ∃ k : Nat, k ≤ xs.length ∧ i = .int .i64 k ∧ wr.ownsRow (w.heap.size + 1) 3 1 (.slice (some ⟨w.heap.size + 1, 0, none⟩) xs.length xs.length) xs.length ((fmap (fun i => ((belowTo xs i xs.length : Nat) : Int)) k ++ List.replicate (xs.length - k) (0:Int)).map (Value.int .i64)) ∧ Below w.heap.size w wr ∧ Box2 wr w.heap.size (.int .i64 (xs.length : Int)) (.slice a xs.length cap)) (fun i _ => xs.length - (intOf i).toNat)
  case atStart => exact ⟨0, Nat.zero_le _, rfl, hown0, hb0, B1⟩
  case round =>
    obtain ⟨k, hk, rfl, hown, hb, hB⟩ := hrel
    have ⟨zr, cr, dr⟩ := hB
    by_cases hlt : k < xs.length
    · go_wp2_with fail
      refine (belowSet_any _ _ _ _ _ _ (hx.below hb) hr (by omega)).mono ?_
      rintro e w2 ⟨rfl, hb2⟩
      have hown2 : w2.ownsRow (w.heap.size + 1) 3 1 (.slice (some ⟨w.heap.size + 1, 0, none⟩) xs.length xs.length) xs.length _ := World.ownsRow.kept hown (below_grown hb2 (Nat.le_refl _) none) (.inr (by simp [Value.ownBlock]))
      have hst := World.ownsRow.stored hown2 k (.int .i64 ((belowTo xs k xs.length : Nat) : Int))
      rw [fill_step (fun i => ((belowTo xs i xs.length : Nat) : Int)) xs.length k hlt] at hst
      have hcc := World.ownsRow.cellAt hown2 k (by omega)
      have hfr := World.ownsRow.frozenAt hown2 k
      have hcc' : ∃ u, w2.cell? ⟨w.heap.size + 1, k, none⟩ = some u := by
        rw [hcc]
        exact ⟨_, List.getElem?_eq_getElem (by simp [fmap_len]; omega)⟩
      obtain ⟨u, hu⟩ := hcc'
      have hB2 := hB.below hb2
      have hB3 := hB2.kept hst.2 (by simp)
      have hbw := hb.trans (hb2.mono hb.size)
      have Hst := Lib.hid hst
      clear hst hcc hown hown2 hb2
      go_wp2_with fail
      go_roundw
      case rel => exact ⟨k + 1, by omega, by go_num, Hst.out.1, hbw.setCell (by simp) _, hB3⟩
      case measure => simp [intOf]; omega
    · obtain rfl : k = xs.length := by omega
      go_wp2_with fail
      go_ret
      rw [fill_end] at hown
      refine ⟨_, _, rfl, OwnI.mono (B := w.heap.size + 1) ?_ (by omega), hb⟩
      show World.ownsRow _ _ _ _ _ _ _
      rw [belows_len]
      exact hown

theorem sets_eq (xs : List Int) : Go.Lib.compact (srt (belows xs xs.length)) = sets xs := by
  refine inc_ext (compact_inc (srt_le _)) (setsTo_inc xs _) (fun x => ?_)
  rw [compact_mem (srt_le _), srt_mem, sets, setsTo_mem]
  simp only [belows, fmap, List.mem_map, List.mem_range]
  constructor
  · rintro ⟨j, hj, e⟩
    exact ⟨j, hj, e.symm⟩
  · rintro ⟨j, hj, e⟩
    exact ⟨j, hj, e.symm⟩
theorem lowerSets_any (n : Int) (a : Option Addr) (xs : List Int) (cap : Nat) (w : World) (hx : Rd w a xs) (hr : RelP n xs) :
    Calls Try.prog 87 #[.agg #[.int .i64 n, .slice a xs.length cap]] w fun e w' => ∃ a' cap', e = .returned (.slice a' (sets xs).length cap') ∧ OwnI w' w.heap.size (.slice a' (sets xs).length cap') (sets xs) ∧ Below w.heap.size w w' := by
  have hx1 := hx.alloc (.cells #[.int .i64 n, .slice a xs.length cap] 26)
  have HE := Lib.hid (sets_eq xs)
  go_enter Try.func87, Try.ntmps87
  go_wp2_with fail
  refine (belowSets_any _ _ _ _ _ hx1 hr).mono ?_
  rintro e w1 ⟨a1, cap1, rfl, ho1, hb1⟩
  have bw1 : Below w.heap.size w w1 := Below.trans (by repeat (first | exact Below.refl _ _ | assumption | refine Below.alloc ?_ (by first | exact Nat.le_refl _ | (simp only [World.size_alloc, World.size_setCell, World.size_drew]; omega) | omega) _ | refine Below.setCell ?_ (by first | exact Nat.le_refl _ | (simp only [World.size_alloc, World.size_setCell, World.size_drew]; omega) | omega) _ | refine Below.drew ?_)) (hb1.mono (by first | (simp only [World.size_alloc, World.size_setCell, World.size_drew]; omega) | omega))
  have o1 : OwnI w1 w.heap.size (.slice a1 (belows xs xs.length).length cap1) (belows xs xs.length) := by
    rw [belows_len]; exact ho1.mono (by simp)
  clear hb1 ho1
  go_wp2_with fail
  have hs := sortOwn a1 cap1 (belows xs xs.length) w.heap.size w1 (by rw [belows_len]; have := hr.len; have := hr.n1; omega) o1
  rw [belows_len] at hs
  refine hs.mono ?_
  rintro e w2 ⟨rfl, ho2, hg2⟩
  clear hs
  have hU := o1.lt
  rw [belows_len] at hU
  have bw2 := bw1.trans (below_of_grown hg2 (fun b e => (hU b e).1) bw1.size)
  have hsl : (srt (belows xs xs.length)).length = xs.length := by rw [srt_len, belows_len]
  have HSL := Lib.hid hsl
  clear hg2 hU o1 hsl
  go_wp2_with fail
  have hc := compactOwn a1 cap1 (srt (belows xs xs.length)) w.heap.size w2 ho2
  rw [HSL.out, HE.out] at hc
  refine hc.mono ?_
  rintro e w3 ⟨rfl, ho3, hg3⟩
  clear hc
  have hU := ho2.lt
  rw [HSL.out] at hU
  have bw3 := bw2.trans (below_of_grown hg3 (fun b e => (hU b e).1) bw2.size)
  clear hg3 hU ho2
  go_wp2_with fail
  go_ret
  exact ⟨a1, cap1, rfl, ho3, bw3⟩

/-- a row of m integers of which the first k are filled, f 0 .. -/
def rowF (f : Nat → Int) (m k : Nat) : List Int := fmap f k ++ List.replicate (m - k) 0
theorem rowF_len (f : Nat → Int) {m k : Nat} (h : k ≤ m) : (rowF f m k).length = m := by simp [rowF, fmap_len]; omega
theorem rowF_set (f : Nat → Int) {m k : Nat} (h : k < m) : (rowF f m k).set k (f k) = rowF f m (k+1) := by
  apply List.ext_getElem?
  intro j
  rw [List.getElem?_set]
  by_cases hj : k = j
  · subst hj
    rw [if_pos rfl, if_pos (by rw [rowF_len f (by omega)]; exact h), rowF, List.getElem?_append_left (by rw [fmap_len]; omega)]
    simp [fmap]
  · simp only [hj, if_false, rowF, List.getElem?_append, fmap_len, List.getElem?_replicate]
    by_cases h1 : j < k
    · have h2 : j < k + 1 := by omega
      simp [h1, h2, fmap]
    · have h2 : ¬ j < k + 1 := by omega
      have h3 : j - k < m - k ↔ j - (k+1) < m - (k+1) := by omega
      simp [h1, h2, h3]
theorem rowF_zero (f : Nat → Int) {m k : Nat} (h : k < m) : (rowF f m k).set k 0 = rowF f m k := by
  apply List.ext_getElem?
  intro j
  rw [List.getElem?_set]
  by_cases hj : k = j
  · subst hj
    rw [if_pos rfl, if_pos (by rw [rowF_len f (by omega)]; exact h), rowF, List.getElem?_append_right (by rw [fmap_len]; omega)]
    rw [fmap_len, Nat.sub_self, List.getElem?_replicate, if_pos (by omega)]
  · simp [hj]
theorem rowF_end (f : Nat → Int) (m : Nat) : rowF f m m = fmap f m := by simp [rowF]
theorem made_row {w1 : World} {B : Nat} {v : Value} {m : Nat} (f : Nat → Int) (h : w1.ownsRow B 3 1 v m (madeCells (Value.int .i64 0).cells (m * 1)).toList) : OwnI w1 B v (rowF f m 0) := by
  unfold OwnI
  rw [rowF_len f (Nat.zero_le _)]
  simpa [Value.cells, toList_madeCells_one, fmap, rowF] using h

theorem OwnI.capLe {w : World} {B n cap : Nat} {a : Option Addr} {xs : List Int} (h : OwnI w B (.slice a n cap) xs) : n ≤ cap := by
  rcases h.2 with ⟨e, _⟩ | ⟨g, cap', cur, e, _, _, hc, _⟩
  · simp only [Value.slice.injEq] at e
    omega
  · simp only [Value.slice.injEq] at e
    omega
theorem Rd.take {w : World} {a : Option Addr} {xs : List Int} (h : Rd w a xs) (k : Nat) : Rd w a (xs.take k) :=
  ⟨Nat.le_trans (by rw [List.length_take]; exact Nat.min_le_right _ _) h.len, fun j hj => by
    have hj' : j < xs.length ∧ j < k := by rw [List.length_take] at hj; omega
    obtain ⟨b, off, e, hl, hc⟩ := h.cell j hj'.1
    refine ⟨b, off, e, hl, hc.trans ?_⟩
    simp [nth, List.getD_eq_getElem?_getD, List.getElem?_take, hj'.2]⟩

theorem Rd.drop {w : World} {ad : Addr} {xs : List Int} (h : Rd w (some ad) xs) (k : Nat) : Rd w (some (ad.add k)) (xs.drop k) :=
  ⟨Nat.le_trans (by rw [List.length_drop]; omega) h.len, fun j hj => by
    have hj' : k + j < xs.length := by rw [List.length_drop] at hj; omega
    obtain ⟨b, off, e, hl, hc⟩ := h.cell (k + j) hj'
    simp only [Option.some.injEq] at e
    subst e
    refine ⟨b, off + k, by rw [Addr.add_lit], hl, ?_⟩
    rw [Nat.add_assoc, hc]
    simp [nth, List.getD_eq_getElem?_getD, List.getElem?_drop]⟩

theorem putL_at {l : List Int} {x : Int} (h : ¬(putK l x < l.length ∧ nth l (putK l x) = x)) : putL l x = l.take (putK l x) ++ [x] ++ l.drop (putK l x) := by
  rw [putL, if_neg h]
set_option maxRecDepth 100000 in
theorem l1Put_any (a : Option Addr) (l : List Int) (cap : Nat) (x : Int) (B : Nat) (w : World) (ho : OwnI w B (.slice a l.length cap) l) (hl : l.length ≤ 1048576) (hB : B ≤ w.heap.size) :
    Calls Try.prog 122 #[.slice a l.length cap, .int .i64 x] w fun e w' => ∃ a' cap', e = .returned (.slice a' (putL l x).length cap') ∧ OwnI w' B (.slice a' (putL l x).length cap') (putL l x) ∧ Below w.heap.size w w' := by
  obtain ⟨i0, hi, hz0, hz1, hz2⟩ := info_parts infoInt
  have hcap := ho.capLe
  have hx := ho.rd
  have hkl := putK_le l x
  have hK1 := fun j (h : j < putK l x) => putK_lt l x j h
  have hK2 := putK_ge l x
  have hP1 : (putK l x < l.length ∧ nth l (putK l x) = x) → putL l x = l := fun he => by rw [putL, if_pos he]
  have hP2 := putL_at (l := l) (x := x)
  generalize putK l x = K at *
  generalize putL l x = L at *
  have HK1 := Lib.hid hK1
  have HK2 := Lib.hid hK2
  have HP1 := Lib.hid hP1
  have HP2 := Lib.hid hP2
  have hb0 : Below w.heap.size w w := Below.refl _ _
  clear hK1 hK2 hP1 hP2
  go_enter Try.func122, Try.ntmps122
  go_wp2_with fail
  go_loop [5] (fun i => ∃ k : Nat, k ≤ K ∧ i = .int .i64 k) (fun i => K - (intOf i).toNat)
  case atStart => exact ⟨0, Nat.zero_le _, rfl⟩
  case round =>
    obtain ⟨k, hk, rfl⟩ := hrel
    by_cases hlt : k < K
    · have hkl2 : k < l.length := by omega
      have hkl3 : (k : Int) < (l.length : Int) := by omega
      obtain ⟨b, off, rfl, hbl, hc⟩ := hx.cell k hkl2
      have h1 := HK1.out k hlt
      go_wp2_with fail
      go_round
      case rel => exact ⟨k + 1, by omega, by go_num⟩
      case measure => simp [intOf]; omega
    · obtain rfl : k = K := by omega
      clear hlt hk
      by_cases he : k < l.length ∧ nth l k = x
      · have hpl := he.1
        have hge : ¬ nth l k < x := by rw [he.2]; omega
        have hq : (nth l k == x) = true := by simp [he.2]
        have HP := Lib.hid (HP1.out he)
        obtain ⟨b, off, rfl, hbl, hc⟩ := hx.cell _ hpl
        clear he
        go_wp2_with fail
        refine bodyPost_ret (v := .slice (some ⟨b, off, none⟩) l.length cap) (by simp [results, Try.results122, go_sem]) rfl ?_
        exact ⟨some ⟨b, off, none⟩, cap, by rw [HP.out], by rw [HP.out]; exact ho, hb0⟩
      · have HP := Lib.hid (HP2.out he)
        rcases ho.2 with ⟨e0, h0⟩ | ⟨g, cap', cur, e0, hbg, hgg, hn, hm, hs, ht⟩
        · simp only [Value.slice.injEq] at e0
          obtain ⟨rfl, -, rfl⟩ := e0
          obtain rfl : l = [] := List.length_eq_zero_iff.1 h0
          have hown0 : (w.alloc (.cells #[] 3)).ownsRow w.heap.size 3 1 (.slice (some ⟨w.heap.size, 0, none⟩) 0 0) 0 [] := World.ownsRow_lit w #[] 0 (Nat.le_refl _) (by simp [maxLen]) (by simp)
          obtain rfl : k = 0 := by simpa using hkl
          have HLL := Lib.hid (show L = [x] by rw [HP.out]; rfl)
          have Hown0 := Lib.hid hown0
          clear he hown0
          go_wp2_with (first | (at_builtin; refine wpList_append_own _ rfl _ _ 24 rfl w.heap.size 3 i0 (.int .i64 0) 1 8 Try.underlying24 hi hz0 hz1 hz2 rfl (by decide) (.slice (some ⟨w.heap.size, 0, none⟩) 0 0) 0 [] rfl (Hown0.out.alloc _) ⟨w.heap.size + 1, 0, none⟩ 1 1 [.int .i64 x] rfl rfl (by have h := cell_one_new (w.alloc (.cells #[] 3)) (.int .i64 x) 3; simp only [World.size_alloc] at h; exact h) (by intro u hu; simp at hu; subst hu; rfl) (by unfold maxLen; omega) (by omega) (by simp; omega) ?_) | (at_builtin; refine wpList_append_none rfl _ _ 24 rfl w.heap.size 3 i0 1 Try.underlying24 hi _ 0 _ [] rfl Hown0.out rfl ?_))
          intro v2 w2 ho2 hg2 _
          have hb2 : Below w.heap.size w w2 := Below.grown (w := (w.alloc (.cells #[] 3)).alloc (.cells #[.int .i64 x] 3)) (by repeat (first | exact Below.refl _ _ | assumption | refine Below.alloc ?_ (by first | exact Nat.le_refl _ | (simp only [World.size_alloc, World.size_setCell, World.size_drew]; omega) | omega) _ | refine Below.setCell ?_ (by first | exact Nat.le_refl _ | (simp only [World.size_alloc, World.size_setCell, World.size_drew]; omega) | omega) _ | refine Below.drew ?_)) hg2 (by simp; omega) (fun b e => by simp [Value.ownBlock] at e; omega)
          have ho2' : OwnI w2 w.heap.size v2 [x] := ho2
          obtain ⟨a2, cap2, rfl⟩ := ho2'.form
          have Ho2 := Lib.hid (ho2'.mono hB)
          have Ho3 := Lib.hid ho2
          clear ho2 hg2 ho2'
          go_wp2_with (at_builtin; refine wpList_append_none rfl _ _ 24 rfl w.heap.size 3 i0 1 Try.underlying24 hi _ _ _ _ rfl Ho3.out rfl ?_)
          go_wp2_with fail
          refine bodyPost_ret (v := .slice a2 1 cap2) (by simp [results, Try.results122, go_sem]) rfl ?_
          exact ⟨a2, cap2, by rw [HLL.out]; rfl, by rw [HLL.out]; exact Ho2.out, hb2⟩
        · simp only [Value.slice.injEq] at e0
          obtain ⟨rfl, -, rfl⟩ := e0
          have hgl : g < w.heap.size := (Array.getElem?_eq_some_iff.1 hgg).1
          clear hgg hs ht hn hm
          have hown0 : (w.alloc (.cells #[] 3)).ownsRow w.heap.size 3 1 (.slice (some ⟨w.heap.size, 0, none⟩) 0 0) 0 [] := World.ownsRow_lit w #[] 0 (Nat.le_refl _) (by simp [maxLen]) (by simp)
          by_cases hpl : k < l.length
          · have hge := HK2.out hpl
            have hge2 : ¬ nth l k < x := by omega
            have hq : (nth l k == x) = false := by
              rw [beq_eq_false_iff_ne]; exact fun e => he ⟨hpl, e⟩
            obtain ⟨b, off, e1, hbl, hc⟩ := hx.cell _ hpl
            simp only [Option.some.injEq, Addr.mk.injEq, and_true] at e1
            obtain ⟨rfl, rfl⟩ := e1
            rw [Nat.zero_add] at hc
            have hkc : k < cap := by omega
            have hkc2 : k ≤ cap := by omega
            have Hown0 := Lib.hid hown0
            obtain ⟨T, hT⟩ : ∃ T, T = l.take k := ⟨_, rfl⟩
            obtain ⟨D, hD⟩ : ∃ D, D = l.drop k := ⟨_, rfl⟩
            have HTl := Lib.hid (show T.length = k by rw [hT, List.length_take]; omega)
            have HDl := Lib.hid (show D.length = l.length - k by rw [hD, List.length_drop])
            have HTr : Rd w (some ⟨g, 0, none⟩) T := hT ▸ hx.take k
            have HDr : Rd w (some ⟨g, k, none⟩) D := by have h := hx.drop k; rw [Addr.add_lit, Nat.zero_add] at h; rw [hD]; exact h
            have HLL := Lib.hid (show L = T ++ [x] ++ D by rw [HP.out, hT, hD])
            clear hT hD
            clear he hown0
            go_wp2_with (at_builtin; refine wpList_append_own _ rfl _ _ 24 rfl w.heap.size 3 i0 (.int .i64 0) 1 8 Try.underlying24 hi hz0 hz1 hz2 rfl (by decide) _ 0 [] rfl Hown0.out ⟨g, 0, none⟩ k cap (T.map (Value.int .i64)) rfl (by rw [List.length_map, Nat.mul_one]; exact HTl.out) (rd_news (HTr.below (by repeat (first | exact Below.refl _ _ | assumption | refine Below.alloc ?_ (by first | exact Nat.le_refl _ | (simp only [World.size_alloc, World.size_setCell, World.size_drew]; omega) | omega) _ | refine Below.setCell ?_ (by first | exact Nat.le_refl _ | (simp only [World.size_alloc, World.size_setCell, World.size_drew]; omega) | omega) _ | refine Below.drew ?_)))) (ints_one _) (by unfold maxLen; omega) (by omega) (by simp) ?_)
            intro v1 w1 ho1 hg1 _
            try simp only [Nat.zero_add, List.nil_append] at ho1
            have hb1 : Below w.heap.size w w1 := Below.grown (w := w.alloc (.cells #[] 3)) (by repeat (first | exact Below.refl _ _ | assumption | refine Below.alloc ?_ (by first | exact Nat.le_refl _ | (simp only [World.size_alloc, World.size_setCell, World.size_drew]; omega) | omega) _ | refine Below.setCell ?_ (by first | exact Nat.le_refl _ | (simp only [World.size_alloc, World.size_setCell, World.size_drew]; omega) | omega) _ | refine Below.drew ?_)) hg1 (by simp) (fun b e => by simp [Value.ownBlock] at e; omega)
            clear hg1
            obtain ⟨a1, cap1, rfl⟩ : ∃ a1 cap1, v1 = .slice a1 k cap1 := by
              rcases ho1.2 with ⟨rfl, h0⟩ | ⟨g1, cap1, cur1, rfl, _⟩
              · exact ⟨none, 0, by rw [h0]⟩
              · exact ⟨_, _, rfl⟩
            have Ho1 := Lib.hid ho1
            have zw1 : w.heap.size ≤ w1.heap.size := hb1.size
            clear ho1
            go_wp2_with (at_builtin; refine wpList_append_own _ rfl _ _ 24 rfl w.heap.size 3 i0 (.int .i64 0) 1 8 Try.underlying24 hi hz0 hz1 hz2 rfl (by decide) (.slice a1 k cap1) k (T.map (Value.int .i64)) rfl (Ho1.out.alloc _) ⟨w1.heap.size, 0, none⟩ 1 1 [.int .i64 x] rfl rfl (cell_one_new _ _ _) (by intro u hu; simp at hu; subst hu; rfl) (by unfold maxLen; omega) (by omega) (by simp; omega) ?_)
            intro v2 w2 ho2 hg2 _
            have hb2 : Below w.heap.size w w2 := hb1.trans (below_of_grown (grown_alloc_set hg2) (fun b e => (Ho1.out.lt b e).1) hb1.size)
            clear hg2
            obtain ⟨a2, cap2, rfl⟩ : ∃ a2 cap2, v2 = .slice a2 (k+1) cap2 := by
              rcases ho2.2 with ⟨rfl, h0⟩ | ⟨g1, cap1, cur1, rfl, _⟩
              · exact ⟨none, 0, by rw [h0]⟩
              · exact ⟨_, _, rfl⟩
            have Ho2 := Lib.hid ho2
            clear ho2 Ho1
            go_wp2_with (at_builtin; refine wpList_append_own _ rfl _ _ 24 rfl w.heap.size 3 i0 (.int .i64 0) 1 8 Try.underlying24 hi hz0 hz1 hz2 rfl (by decide) (.slice a2 (k + 1) cap2) (k + 1) (T.map (Value.int .i64) ++ [.int .i64 x]) rfl Ho2.out ⟨g, k, none⟩ (l.length - k) (cap - k) (D.map (Value.int .i64)) rfl (by rw [List.length_map, Nat.mul_one]; exact HDl.out) (rd_news (HDr.below hb2)) (ints_one _) (by unfold maxLen; omega) (by omega) (by have := hb2.size; omega) ?_)
            intro v3 w3 ho3 hg3 _
            have hb3 : Below w.heap.size w w3 := hb2.trans (below_of_grown hg3 (fun b e => (Ho2.out.lt b e).1) hb2.size)
            have hll : L.length = k + 1 + (l.length - k) := by
              have h := congrArg List.length HLL.out
              rw [List.length_append, List.length_append, HTl.out, HDl.out, List.length_singleton] at h
              exact h
            have ho4 : OwnI w3 w.heap.size v3 L := by
              unfold OwnI
              rw [hll, HLL.out, List.map_append, List.map_append, List.append_assoc]
              exact ho3
            obtain ⟨a3, cap3, rfl⟩ := ho4.form
            have Ho4 := Lib.hid (ho4.mono hB)
            clear ho3 hg3 Ho2 ho4 hll
            go_wp2_with fail
            refine bodyPost_ret (v := .slice a3 L.length cap3) (by simp [results, Try.results122, go_sem]) rfl ?_
            exact ⟨a3, cap3, rfl, Ho4.out, hb3⟩
          · obtain rfl : k = l.length := by omega
            have Hown0 := Lib.hid hown0
            have HLL := Lib.hid (show L = l ++ [x] ++ [] by rw [HP.out]; simp)
            clear he hown0 hpl
            by_cases hcl : cap = l.length
            · obtain rfl : cap = l.length := hcl
              go_wp2_with (at_builtin; refine wpList_append_own _ rfl _ _ 24 rfl w.heap.size 3 i0 (.int .i64 0) 1 8 Try.underlying24 hi hz0 hz1 hz2 rfl (by decide) _ 0 [] rfl Hown0.out ⟨g, 0, none⟩ l.length l.length (l.map (Value.int .i64)) rfl (by rw [List.length_map, Nat.mul_one]) (rd_news (hx.below (by repeat (first | exact Below.refl _ _ | assumption | refine Below.alloc ?_ (by first | exact Nat.le_refl _ | (simp only [World.size_alloc, World.size_setCell, World.size_drew]; omega) | omega) _ | refine Below.setCell ?_ (by first | exact Nat.le_refl _ | (simp only [World.size_alloc, World.size_setCell, World.size_drew]; omega) | omega) _ | refine Below.drew ?_)))) (ints_one _) (by unfold maxLen; omega) (by omega) (by simp) ?_)
              intro v1 w1 ho1 hg1 _
              try simp only [Nat.zero_add, List.nil_append] at ho1
              have hb1 : Below w.heap.size w w1 := Below.grown (w := w.alloc (.cells #[] 3)) (by repeat (first | exact Below.refl _ _ | assumption | refine Below.alloc ?_ (by first | exact Nat.le_refl _ | (simp only [World.size_alloc, World.size_setCell, World.size_drew]; omega) | omega) _ | refine Below.setCell ?_ (by first | exact Nat.le_refl _ | (simp only [World.size_alloc, World.size_setCell, World.size_drew]; omega) | omega) _ | refine Below.drew ?_)) hg1 (by simp) (fun b e => by simp [Value.ownBlock] at e; omega)
              clear hg1
              obtain ⟨a1, cap1, rfl⟩ : ∃ a1 cap1, v1 = .slice a1 l.length cap1 := by
                rcases ho1.2 with ⟨rfl, h0⟩ | ⟨g1, cap1, cur1, rfl, _⟩
                · exact ⟨none, 0, by rw [h0]⟩
                · exact ⟨_, _, rfl⟩
              have Ho1 := Lib.hid ho1
              have zw1 : w.heap.size ≤ w1.heap.size := hb1.size
              clear ho1
              go_wp2_with (at_builtin; refine wpList_append_own _ rfl _ _ 24 rfl w.heap.size 3 i0 (.int .i64 0) 1 8 Try.underlying24 hi hz0 hz1 hz2 rfl (by decide) (.slice a1 l.length cap1) l.length (l.map (Value.int .i64)) rfl (Ho1.out.alloc _) ⟨w1.heap.size, 0, none⟩ 1 1 [.int .i64 x] rfl rfl (cell_one_new _ _ _) (by intro u hu; simp at hu; subst hu; rfl) (by unfold maxLen; omega) (by omega) (by simp; omega) ?_)
              intro v2 w2 ho2 hg2 _
              have hb2 : Below w.heap.size w w2 := hb1.trans (below_of_grown (grown_alloc_set hg2) (fun b e => (Ho1.out.lt b e).1) hb1.size)
              clear hg2
              obtain ⟨a2, cap2, rfl⟩ : ∃ a2 cap2, v2 = .slice a2 (l.length+1) cap2 := by
                rcases ho2.2 with ⟨rfl, h0⟩ | ⟨g1, cap1, cur1, rfl, _⟩
                · exact ⟨none, 0, by rw [h0]⟩
                · exact ⟨_, _, rfl⟩
              have Ho2 := Lib.hid ho2
              clear ho2 Ho1
              go_wp2_with (at_builtin; refine wpList_append_own _ rfl _ _ 24 rfl w.heap.size 3 i0 (.int .i64 0) 1 8 Try.underlying24 hi hz0 hz1 hz2 rfl (by decide) (.slice a2 (l.length + 1) cap2) (l.length + 1) (l.map (Value.int .i64) ++ [.int .i64 x]) rfl Ho2.out ⟨g, 0, none⟩ 0 0 [] rfl rfl (fun j u hj => by simp at hj) (fun u hu => by simp at hu) (by unfold maxLen; omega) (by omega) (by have := hb2.size; omega) ?_)
              intro v3 w3 ho3 hg3 _
              have hb3 : Below w.heap.size w w3 := hb2.trans (below_of_grown hg3 (fun b e => (Ho2.out.lt b e).1) hb2.size)
              have hll : L.length = l.length + 1 + 0 := by
                have h := congrArg List.length HLL.out
                rw [List.length_append, List.length_append, List.length_nil, List.length_singleton] at h
                exact h
              have ho4 : OwnI w3 w.heap.size v3 L := by
                unfold OwnI
                rw [hll, HLL.out, List.map_append, List.map_append, List.append_assoc]
                simpa using ho3
              obtain ⟨a3, cap3, rfl⟩ := ho4.form
              have Ho4 := Lib.hid (ho4.mono hB)
              clear ho3 hg3 Ho2 ho4 hll
              go_wp2_with fail
              refine bodyPost_ret (v := .slice a3 L.length cap3) (by simp [results, Try.results122, go_sem]) rfl ?_
              exact ⟨a3, cap3, rfl, Ho4.out, hb3⟩
            · have hcl2 : ¬ l.length = cap := fun e => hcl e.symm
              have hcl3 : l.length < cap := by omega
              go_wp2_with (at_builtin; refine wpList_append_own _ rfl _ _ 24 rfl w.heap.size 3 i0 (.int .i64 0) 1 8 Try.underlying24 hi hz0 hz1 hz2 rfl (by decide) _ 0 [] rfl Hown0.out ⟨g, 0, none⟩ l.length cap (l.map (Value.int .i64)) rfl (by rw [List.length_map, Nat.mul_one]) (rd_news (hx.below (by repeat (first | exact Below.refl _ _ | assumption | refine Below.alloc ?_ (by first | exact Nat.le_refl _ | (simp only [World.size_alloc, World.size_setCell, World.size_drew]; omega) | omega) _ | refine Below.setCell ?_ (by first | exact Nat.le_refl _ | (simp only [World.size_alloc, World.size_setCell, World.size_drew]; omega) | omega) _ | refine Below.drew ?_)))) (ints_one _) (by unfold maxLen; omega) (by omega) (by simp) ?_)
              intro v1 w1 ho1 hg1 _
              try simp only [Nat.zero_add, List.nil_append] at ho1
              have hb1 : Below w.heap.size w w1 := Below.grown (w := w.alloc (.cells #[] 3)) (by repeat (first | exact Below.refl _ _ | assumption | refine Below.alloc ?_ (by first | exact Nat.le_refl _ | (simp only [World.size_alloc, World.size_setCell, World.size_drew]; omega) | omega) _ | refine Below.setCell ?_ (by first | exact Nat.le_refl _ | (simp only [World.size_alloc, World.size_setCell, World.size_drew]; omega) | omega) _ | refine Below.drew ?_)) hg1 (by simp) (fun b e => by simp [Value.ownBlock] at e; omega)
              clear hg1
              obtain ⟨a1, cap1, rfl⟩ : ∃ a1 cap1, v1 = .slice a1 l.length cap1 := by
                rcases ho1.2 with ⟨rfl, h0⟩ | ⟨g1, cap1, cur1, rfl, _⟩
                · exact ⟨none, 0, by rw [h0]⟩
                · exact ⟨_, _, rfl⟩
              have Ho1 := Lib.hid ho1
              have zw1 : w.heap.size ≤ w1.heap.size := hb1.size
              clear ho1
              go_wp2_with (at_builtin; refine wpList_append_own _ rfl _ _ 24 rfl w.heap.size 3 i0 (.int .i64 0) 1 8 Try.underlying24 hi hz0 hz1 hz2 rfl (by decide) (.slice a1 l.length cap1) l.length (l.map (Value.int .i64)) rfl (Ho1.out.alloc _) ⟨w1.heap.size, 0, none⟩ 1 1 [.int .i64 x] rfl rfl (cell_one_new _ _ _) (by intro u hu; simp at hu; subst hu; rfl) (by unfold maxLen; omega) (by omega) (by simp; omega) ?_)
              intro v2 w2 ho2 hg2 _
              have hb2 : Below w.heap.size w w2 := hb1.trans (below_of_grown (grown_alloc_set hg2) (fun b e => (Ho1.out.lt b e).1) hb1.size)
              clear hg2
              obtain ⟨a2, cap2, rfl⟩ : ∃ a2 cap2, v2 = .slice a2 (l.length+1) cap2 := by
                rcases ho2.2 with ⟨rfl, h0⟩ | ⟨g1, cap1, cur1, rfl, _⟩
                · exact ⟨none, 0, by rw [h0]⟩
                · exact ⟨_, _, rfl⟩
              have Ho2 := Lib.hid ho2
              clear ho2 Ho1
              go_wp2_with (at_builtin; refine wpList_append_own _ rfl _ _ 24 rfl w.heap.size 3 i0 (.int .i64 0) 1 8 Try.underlying24 hi hz0 hz1 hz2 rfl (by decide) (.slice a2 (l.length + 1) cap2) (l.length + 1) (l.map (Value.int .i64) ++ [.int .i64 x]) rfl Ho2.out ⟨g, l.length, none⟩ 0 (cap - l.length) [] rfl rfl (fun j u hj => by simp at hj) (fun u hu => by simp at hu) (by unfold maxLen; omega) (by omega) (by have := hb2.size; omega) ?_)
              intro v3 w3 ho3 hg3 _
              have hb3 : Below w.heap.size w w3 := hb2.trans (below_of_grown hg3 (fun b e => (Ho2.out.lt b e).1) hb2.size)
              have hll : L.length = l.length + 1 + 0 := by
                have h := congrArg List.length HLL.out
                rw [List.length_append, List.length_append, List.length_nil, List.length_singleton] at h
                exact h
              have ho4 : OwnI w3 w.heap.size v3 L := by
                unfold OwnI
                rw [hll, HLL.out, List.map_append, List.map_append, List.append_assoc]
                simpa using ho3
              obtain ⟨a3, cap3, rfl⟩ := ho4.form
              have Ho4 := Lib.hid (ho4.mono hB)
              clear ho3 hg3 Ho2 ho4 hll
              go_wp2_with fail
              refine bodyPost_ret (v := .slice a3 L.length cap3) (by simp [results, Try.results122, go_sem]) rfl ?_
              exact ⟨a3, cap3, rfl, Ho4.out, hb3⟩

theorem orBelow_any (n : Int) (a : Option Addr) (xs : List Int) (cap : Nat) (i : Int) (w : World) (hx : Rd w a xs) (hr : RelP n xs) (hi : 0 ≤ i) :
    Calls Try.prog 103 #[.agg #[.int .i64 n, .slice a xs.length cap], .int .i64 i] w fun e w' => e = .returned (.int .i64 (belowTo xs i xs.length)) ∧ Below w.heap.size w w' := by
  have hx1 := hx.alloc (.cells #[.int .i64 n, .slice a xs.length cap] 26)
  have hn : xs.length ≤ 10 := by have := hr.len; have := hr.n1; omega
  go_enter Try.func103, Try.ntmps103
  go_wp2_with fail
  go_loop [5, 11] (fun s i' => ∃ k : Nat, k ≤ xs.length ∧ i' = .int .i64 k ∧ s = .int .i64 (belowTo xs i k)) (fun _ i => xs.length - (intOf i).toNat)
  case atStart => exact ⟨0, Nat.zero_le _, rfl, rfl⟩
  case round =>
    obtain ⟨k, hk, rfl, rfl⟩ := hrel
    by_cases hlt : k < xs.length
    · obtain ⟨b, off, rfl, hbl, hc⟩ := hx1.cell k hlt
      obtain ⟨b', off', e', hbl', hc'⟩ := hx.cell k hlt
      simp only [Option.some.injEq, Addr.mk.injEq, and_true] at e'
      obtain ⟨rfl, rfl⟩ := e'
      have hpk := hr.pos k hlt
      have hsk : nth xs k ≤ 9223372036854775807 := by have := hr.small k hlt; omega
      have hbs := belowTo_small xs i (k := k) (by omega)
      have hor := Lib.hid (or_bit (b := belowTo xs i k) (k := k) (by omega) (by omega))
      clear hbs
      cases hin : hasB (nth xs k) i
      · go_wp2_with (go_at_call 69; refine (orHas_any _ _ _ hpk hsk hi).mono ?_; rintro e w' ⟨rfl, rfl⟩)
        go_round
        case rel => exact ⟨k + 1, by omega, by go_num, by simp [belowTo, hin]⟩
        case measure => simp [intOf]; omega
      · go_wp2_with (go_at_call 69; refine (orHas_any _ _ _ hpk hsk hi).mono ?_; rintro e w' ⟨rfl, rfl⟩)
        go_round
        case rel => exact ⟨k + 1, by omega, by go_num, val_int (by rw [hor.out]; simp [belowTo, hin])⟩
        case measure => simp [intOf]; omega
    · obtain rfl : k = xs.length := by omega
      go_wp2_with fail
      go_ret
      exact ⟨rfl, (by repeat (first | exact Below.refl _ _ | assumption | refine Below.alloc ?_ (by first | exact Nat.le_refl _ | (simp only [World.size_alloc, World.size_setCell, World.size_drew]; omega) | omega) _ | refine Below.setCell ?_ (by first | exact Nat.le_refl _ | (simp only [World.size_alloc, World.size_setCell, World.size_drew]; omega) | omega) _ | refine Below.drew ?_))⟩

theorem setsTo_L (xs : List Int) (k : Nat) : putL (setsTo xs k) ((belowTo xs (k : Int) xs.length : Nat) : Int) = setsTo xs (k+1) := rfl
theorem lessB_ne {s own : Int} (h : (s != own) = false) : lessB s own = false := by simp [lessB, h]
theorem lessB_val {s own : Int} (h : (s != own) = true) : lessB s own = (sub s.toNat own.toNat == 0) := by simp [lessB, h]
theorem lessB_sub {s : Int} {o : Nat} (h0 : 0 ≤ s) (h1 : s < 1024) (h2 : o < 1024) (h : (s != (o : Int)) = true) : (bits .andNot .i64 s (o : Int) == 0) = lessB s (o : Int) := by
  rw [lessB_val h, sub_i h0 (by omega) (by omega) (by omega), Int.toNat_natCast, Bool.eq_iff_iff, beq_iff_eq, beq_iff_eq]
  omega
theorem ivLevels_any (n : Int) (a : Option Addr) (xs : List Int) (cap : Nat) (w : World) (hx : Rd w a xs) (hr : RelP n xs) :
    Calls Try.prog 98 #[.agg #[.int .i64 n, .slice a xs.length cap]] w fun e w' => ∃ a' cap', e = .returned (.slice a' xs.length cap') ∧ OwnI w' w.heap.size (.slice a' xs.length cap') (levs xs xs.length) ∧ Below w.heap.size w w' := by
  obtain ⟨i0, hi, hz0, hz1, hz2⟩ := info_parts infoInt
  obtain rfl : n = (xs.length : Int) := hr.len.symm
  have hn : xs.length ≤ 10 := by have := hr.n1; omega
  go_enter Try.func98, Try.ntmps98
  go_wp2_with fail
  go_loopw [3, 13] (fun v i wr => ∃ (k : Nat) (aS : Option Addr) (cS : Nat), k ≤ xs.length ∧ i = .int .i64 k ∧ v = .slice aS (setsTo xs k).length cS ∧ OwnI wr (w.heap.size + 1) (.slice aS (setsTo xs k).length cS) (setsTo xs k) ∧ Below w.heap.size w wr ∧ Box2 wr w.heap.size (.int .i64 (xs.length : Int)) (.slice a xs.length cap)) (fun _ i _ => xs.length - (intOf i).toNat)
  case atStart => exact ⟨0, none, 0, Nat.zero_le _, rfl, rfl, OwnI.nil _ _, (by repeat (first | exact Below.refl _ _ | assumption | refine Below.alloc ?_ (by first | exact Nat.le_refl _ | (simp only [World.size_alloc, World.size_setCell, World.size_drew]; omega) | omega) _ | refine Below.setCell ?_ (by first | exact Nat.le_refl _ | (simp only [World.size_alloc, World.size_setCell, World.size_drew]; omega) | omega) _ | refine Below.drew ?_)), Box2.new w _ _ _⟩
  case round =>
    obtain ⟨k, aS, cS, hk, rfl, rfl, hown, hb, hB⟩ := hrel
    have ⟨zr, cr, dr⟩ := hB
    have hsl := setsTo_len xs k
    by_cases hlt : k < xs.length
    · have k0 : (0 : Int) ≤ (k : Int) := by omega
      have hLL := Lib.hid (setsTo_L xs k)
      go_wp2_with fail
      refine (orBelow_any _ _ _ _ _ _ (hx.below hb) hr k0).mono ?_
      rintro e w2 ⟨rfl, hb2⟩
      have o2 := hown.below hb2 (Nat.le_refl _)
      have B2 := hB.below hb2
      have bw2 := hb.trans (hb2.mono hb.size)
      have hz2' : w.heap.size + 1 ≤ w2.heap.size := by have := B2.1; omega
      clear hb2 hown cr dr
      go_wp2_with fail
      refine (l1Put_any _ _ _ _ _ _ o2 (by omega) hz2').mono ?_
      rw [hLL.out]
      rintro e w3 ⟨a3, c3, rfl, o3, hb3⟩
      have B3 := B2.below hb3
      have bw3 := bw2.trans (hb3.mono bw2.size)
      clear hb3
      go_wp2_with fail
      go_roundw
      case rel => exact ⟨k + 1, a3, c3, by omega, by go_num, rfl, o3, bw3, B3⟩
      case measure => simp [intOf]; omega
    · obtain rfl : k = xs.length := by omega
      obtain ⟨ss, hss⟩ : ∃ ss, ss = setsTo xs xs.length := ⟨_, rfl⟩
      have hbd : ∀ m, m < ss.length → 0 ≤ nth ss m ∧ nth ss m < 1024 := fun m hm => by rw [hss] at hm ⊢; exact setsTo_bd hn hm
      have hlv : ∀ i, lv xs i = ((lvTo ss ((belowTo xs (i : Int) xs.length : Nat) : Int) ss.length : Nat) : Int) := fun i => by rw [hss]; rfl
      rw [← hss] at hown hsl
      rw [← hss]
      have HBD := Lib.hid hbd
      have HLV := Lib.hid hlv
      clear hss hbd hlv
      have hUs := hown.lt
      have zr2 : w.heap.size + 1 ≤ wr.heap.size := by omega
      have hrs := hown.rd
      obtain ⟨wo, rfl⟩ : ∃ wo : World, wo = wr := ⟨_, rfl⟩
      go_wp2_with fail
      clear cr dr
      go_loopw [5, 25] (fun v i wr => ∃ k : Nat, k ≤ xs.length ∧ i = .int .i64 k ∧ OwnI wr wo.heap.size v (levs xs k) ∧ Below wo.heap.size wo wr) (fun _ i _ => xs.length - (intOf i).toNat)
      case atStart => exact ⟨0, Nat.zero_le _, rfl, OwnI.nil _ _, Below.refl _ _⟩
      case round =>
        obtain ⟨k, hk, rfl, hv, hbv⟩ := hrel
        obtain ⟨av, cv, rfl⟩ := hv.form
        rw [levs_len] at hv ⊢
        obtain ⟨wp, rfl⟩ : ∃ wp : World, wp = wr := ⟨_, rfl⟩
        by_cases hlt : k < xs.length
        · have k0 : (0 : Int) ≤ (k : Int) := by omega
          have hbt := belowTo_small xs (k : Int) (k := xs.length) hn
          go_wp2_with fail
          go_loopw [7, 30] (fun c i wr => ∃ m : Nat, m ≤ ss.length ∧ i = .int .i64 m ∧ c = .int .i64 (lvTo ss ((belowTo xs (k : Int) xs.length : Nat) : Int) m) ∧ Below wp.heap.size wp wr) (fun _ i _ => ss.length - (intOf i).toNat)
          case atStart => exact ⟨0, Nat.zero_le _, rfl, rfl, Below.refl _ _⟩
          case round =>
            obtain ⟨m, hm, rfl, rfl, hbm⟩ := hrel
            have hbt2 := hbv.trans (hbm.mono hbv.size)
            have bwm := hb.trans (hbt2.mono hb.size)
            by_cases hlt2 : m < ss.length
            · have hBm := hB.below hbt2
              have ⟨z1, c1, d1⟩ := hBm
              obtain ⟨b, off, rfl, hbl, hc⟩ := (hrs.below hbt2).cell m hlt2
              have ⟨s0, s1⟩ := HBD.out m hlt2
              have hle := lvTo_le ss ((belowTo xs (k : Int) xs.length : Nat) : Int) m
              cases hne : (nth ss m != ((belowTo xs (k : Int) xs.length : Nat) : Int))
              · have HN := Lib.hid (lessB_ne hne)
                go_wp2_with fail
                refine (orBelow_any _ _ _ _ _ _ (hx.below bwm) hr k0).mono ?_
                rintro e w4 ⟨rfl, hb4⟩
                have bm4 := hbm.trans (hb4.mono hbm.size)
                clear c1 d1 hc
                go_wp2_with fail
                go_roundw
                case rel => exact ⟨m + 1, by omega, by go_num, by simp only [lvTo, HN.out]; rfl, bm4⟩
                case measure => simp [intOf]; omega
              · have hsb := lessB_sub s0 s1 hbt hne
                cases hlb : lessB (nth ss m) ((belowTo xs (k : Int) xs.length : Nat) : Int)
                all_goals
                  rw [hlb] at hsb
                  have HN := Lib.hid hlb
                  clear hlb
                  go_wp2_with fail
                  refine (orBelow_any _ _ _ _ _ _ (hx.below bwm) hr k0).mono ?_
                  rintro e w4 ⟨rfl, hb4⟩
                  have bm4 := hbm.trans (hb4.mono hbm.size)
                  have B4 := hBm.below hb4
                  have bw4 := bwm.trans (hb4.mono bwm.size)
                  have ⟨z4, c4, d4⟩ := B4
                  clear c1 d1 hc hb4
                  go_wp2_with fail
                  refine (orBelow_any _ _ _ _ _ _ (hx.below bw4) hr k0).mono ?_
                  rintro e w5 ⟨rfl, hb5⟩
                  have bm5 := bm4.trans (hb5.mono bm4.size)
                  clear c4 d4
                  go_wp2_with fail
                  go_roundw
                  case rel => exact ⟨m + 1, by omega, by go_num, by simp only [lvTo, HN.out]; first | rfl | go_num, bm5⟩
                  case measure => simp [intOf]; omega
            · obtain rfl : m = ss.length := by omega
              have hv2 := hv.below hbm (Nat.le_refl _)
              have hbt3 := hbt2.size
              have HLK := Lib.hid (HLV.out k)
              rw [← HLK.out]
              go_wp2_with (at_builtin; refine wpList_append_own _ rfl _ _ 24 rfl wo.heap.size 3 i0 (.int .i64 0) 1 8 Try.underlying24 hi hz0 hz1 hz2 rfl (by decide) (.slice av k cv) k ((levs xs k).map (Value.int .i64)) rfl (by have h := hv2.alloc (.cells #[.int .i64 (lv xs k)] 3); unfold OwnI at h; rw [levs_len] at h; exact h) ⟨wr.heap.size, 0, none⟩ 1 1 [.int .i64 (lv xs k)] rfl rfl (cell_one_new _ _ _) (by intro u hu; simp at hu; subst hu; rfl) (by unfold maxLen; omega) (by omega) (by simp; omega) ?_)
              intro v' w6 hown6 hgrow _
              have hg2 := grown_alloc_set hgrow
              have o6 : OwnI w6 wo.heap.size v' (levs xs (k + 1)) := by
                unfold OwnI
                rw [levs_len, levs, fmap_succ, List.map_append]
                exact hown6
              have hU := hv2.lt
              have bw6 := hbt2.trans (below_of_grown hg2 (fun c e => by have := hU c e; omega) hbt2.size)
              clear hown6 hgrow hU
              go_wp2_with fail
              go_roundw
              case rel => exact ⟨k + 1, by omega, by go_num, o6, bw6⟩
              case measure => simp [intOf]; omega
        · obtain rfl : k = xs.length := by omega
          go_wp2_with fail
          go_ret
          exact ⟨av, cv, rfl, hv.mono hb.size, hb.trans (hbv.mono hb.size)⟩

theorem iLevels_any (n : Int) (a : Option Addr) (xs : List Int) (cap : Nat) (w : World) (hn : -9223372036854775808 ≤ n ∧ n ≤ 9223372036854775807) (hx : Rd w a xs) :
    Calls Try.prog 42 #[.agg #[.int .i64 n, .slice a xs.length cap]] w fun e w' => ∃ a' cap', e = .returned (.tuple #[.slice a' (levL n xs).length cap', .bool (isIv n xs)]) ∧ OwnI w' w.heap.size (.slice a' (levL n xs).length cap') (levL n xs) ∧ Below w.heap.size w w' := by
  have hx1 := hx.alloc (.cells #[.int .i64 n, .slice a xs.length cap] 26)
  obtain ⟨i0, hi, hz0, hz1, hz2⟩ := info_parts infoInt
  cases hr : isIv n xs
  · have H1 : Hid (levL n xs = []) := by simp [Hid, levL, hr]
    have HR := Lib.hid hr
    clear hr
    go_enter Try.func42, Try.ntmps42
    go_wp2_with fail
    refine (iIsInterval_any _ _ _ _ _ hn hx1).mono ?_
    rw [HR.out]
    rintro e w1 ⟨rfl, hb1⟩
    have bw1 : Below w.heap.size w w1 := Below.trans (by repeat (first | exact Below.refl _ _ | assumption | refine Below.alloc ?_ (by first | exact Nat.le_refl _ | (simp only [World.size_alloc, World.size_setCell, World.size_drew]; omega) | omega) _ | refine Below.setCell ?_ (by first | exact Nat.le_refl _ | (simp only [World.size_alloc, World.size_setCell, World.size_drew]; omega) | omega) _ | refine Below.drew ?_)) (hb1.mono (by first | (simp only [World.size_alloc, World.size_setCell, World.size_drew]; omega) | omega))
    go_wp2_with fail
    refine bodyPost_ret (v := .tuple #[.slice none 0 0, .bool false]) (by simp [results, Try.results42, go_sem]) rfl ?_
    exact ⟨none, 0, by rw [H1.out]; rfl, by rw [H1.out]; exact OwnI.nil _ _, bw1⟩
  · have ho := isIv_ord hr
    have hp := ord_rel ho
    have H1 : Hid (levL n xs = levs xs xs.length) := by simp [Hid, levL, hr]
    have HR := Lib.hid hr
    have HO := Lib.hid ho
    obtain rfl : n = (xs.length : Int) := hp.len.symm
    have hl10 : xs.length ≤ 10 := by have := hp.n1; omega
    clear hr ho
    go_enter Try.func42, Try.ntmps42
    go_wp2_with fail
    refine (iIsInterval_any _ _ _ _ _ hn hx1).mono ?_
    rw [HR.out, HO.out]
    rintro e w1 ⟨rfl, hb1⟩
    have A1 : Box2 w1 w.heap.size (.int .i64 (xs.length : Int)) (.slice a xs.length cap) := (Box2.new w _ _ _).below hb1
    have bw1 : Below w.heap.size w w1 := Below.trans (by repeat (first | exact Below.refl _ _ | assumption | refine Below.alloc ?_ (by first | exact Nat.le_refl _ | (simp only [World.size_alloc, World.size_setCell, World.size_drew]; omega) | omega) _ | refine Below.setCell ?_ (by first | exact Nat.le_refl _ | (simp only [World.size_alloc, World.size_setCell, World.size_drew]; omega) | omega) _ | refine Below.drew ?_)) (hb1.mono (by first | (simp only [World.size_alloc, World.size_setCell, World.size_drew]; omega) | omega))
    have ⟨zA, cA, dA⟩ := A1
    clear hb1
    go_wp2_with fail
    refine (lowerSets_any _ _ _ _ _ (hx.below bw1) hp).mono ?_
    obtain ⟨ss, hss⟩ : ∃ ss, ss = sets xs := ⟨_, rfl⟩
    have hbd : ∀ m, m < ss.length → 0 ≤ nth ss m ∧ nth ss m < 1024 := fun m hm => by rw [hss] at hm ⊢; exact setsTo_bd hl10 hm
    have hlv : ∀ i, lv xs i = ((lvTo ss ((belowTo xs (i : Int) xs.length : Nat) : Int) ss.length : Nat) : Int) := fun i => by rw [hss]; rfl
    have hsl : ss.length ≤ xs.length := by rw [hss]; exact sets_len xs
    rw [← hss]
    have HBD := Lib.hid hbd
    have HLV := Lib.hid hlv
    clear hss hbd hlv
    rintro e w2 ⟨a2, cap2, rfl, ho2, hb2⟩
    have A2 := A1.below hb2
    have bw2 := bw1.trans (hb2.mono bw1.size)
    have hrs := ho2.rd
    have zw2 : w.heap.size + 1 ≤ w2.heap.size := by have := A2.1; omega
    clear zA cA dA A1 hb2
    have ⟨zA, cA, dA⟩ := A2
    go_wp2_with (at_make; refine wpList_make_full _ rfl (.tmp 22) (.tmp 22) 24 rfl w2.heap.size 3 i0 (.int .i64 0) 1 Try.underlying24 hi hz0 hz1 .i64 .i64 _ _ xs.length rfl rfl rfl rfl (by rw [hz2]; omega) (by unfold maxLen; omega) (Nat.le_refl _) ?_; intro w3 hown hgrow; have A3 := A2.kept hgrow (by simp))
    have hb3 : Below w2.heap.size w2 w3 := (Below.refl _ _).grown hgrow (Nat.le_refl _) (fun k h => by cases h)
    have hown0 := made_row (lv xs) hown
    clear hown hgrow cA dA zA A2
    go_wp2_with fail
    go_loopw [26] (fun i wr => ∃ k : Nat, k ≤ xs.length ∧ i = .int .i64 k ∧ OwnI wr w2.heap.size (.slice (some ⟨w2.heap.size, 0, none⟩) xs.length xs.length) (rowF (lv xs) xs.length k) ∧ Below w2.heap.size w2 wr ∧ Box2 wr w.heap.size (.int .i64 (xs.length : Int)) (.slice a xs.length cap)) (fun i _ => xs.length - (intOf i).toNat)
    case atStart => exact ⟨0, Nat.zero_le _, rfl, hown0, hb3, A3⟩
    case round =>
      obtain ⟨k, hk, rfl, hown, hb, hA⟩ := hrel
      have ⟨zB, cB, dB⟩ := hA
      by_cases hlt : k < xs.length
      · have k0 : (0 : Int) ≤ (k : Int) := by omega
        have k1 : (k : Int) < (xs.length : Int) := by omega
        have hbt := belowTo_small xs (k : Int) (k := xs.length) hl10
        go_wp2_with fail
        refine (belowSet_any _ _ _ _ _ _ (hx.below (bw2.trans (hb.mono bw2.size))) hp k0).mono ?_
        rintro e w4 ⟨rfl, hb4⟩
        have A4 := hA.below hb4
        have b4 := hb.trans (hb4.mono hb.size)
        have o4 := hown.below hb4 (Nat.le_refl _)
        clear cB dB hb4 hown
        go_wp2_with fail
        go_loopw [34] (fun i' wi => ∃ j : Nat, j ≤ ss.length ∧ i' = .int .i64 j ∧ OwnI wi w2.heap.size (.slice (some ⟨w2.heap.size, 0, none⟩) xs.length xs.length) ((rowF (lv xs) xs.length k).set k ((lvTo ss ((belowTo xs (k : Int) xs.length : Nat) : Int) j : Nat) : Int)) ∧ Below w2.heap.size w2 wi ∧ Box2 wi w.heap.size (.int .i64 (xs.length : Int)) (.slice a xs.length cap)) (fun i _ => ss.length - (intOf i).toNat)
        case atStart => exact ⟨0, Nat.zero_le _, rfl, by rw [lvTo, show (((0 : Nat) : Nat) : Int) = 0 from rfl, rowF_zero _ hlt]; exact o4, b4, A4⟩
        case round =>
          obtain ⟨j, hj, rfl, hown, hb, hA⟩ := hrel
          by_cases hjl : j < ss.length
          · obtain ⟨b2, off2, rfl, hbl2, hc2⟩ := (hrs.below hb).cell j hjl
            have ⟨s0, s1⟩ := HBD.out j hjl
            have hle := lvTo_le ss ((belowTo xs (k : Int) xs.length : Nat) : Int) j
            cases hne : (nth ss j != ((belowTo xs (k : Int) xs.length : Nat) : Int))
            · have HN := Lib.hid (lessB_ne hne)
              go_wp2_with fail
              go_roundw
              case rel => exact ⟨j + 1, by omega, by go_num, by simp only [lvTo, HN.out]; exact hown, hb, hA⟩
              case measure => simp [intOf]; omega
            · have hsb := lessB_sub s0 s1 hbt hne
              cases hlb : lessB (nth ss j) ((belowTo xs (k : Int) xs.length : Nat) : Int)
              · rw [hlb] at hsb
                have HN := Lib.hid hlb
                clear hlb
                go_wp2_with fail
                go_roundw
                case rel => exact ⟨j + 1, by omega, by go_num, by simp only [lvTo, HN.out]; exact hown, hb, hA⟩
                case measure => simp [intOf]; omega
              · rw [hlb] at hsb
                have HN := Lib.hid hlb
                clear hlb
                obtain ⟨row, hrow⟩ : ∃ row, row = (rowF (lv xs) xs.length k).set k ((lvTo ss ((belowTo xs (k : Int) xs.length : Nat) : Int) j : Nat) : Int) := ⟨_, rfl⟩
                have hrl : row.length = xs.length := by rw [hrow, List.length_set, rowF_len _ hk]
                have hrk : nth row k = ((lvTo ss ((belowTo xs (k : Int) xs.length : Nat) : Int) j : Nat) : Int) := by rw [hrow, nth_set (by rw [rowF_len _ hk]; exact hlt), if_pos rfl]
                have hrs : ∀ y, row.set k y = (rowF (lv xs) xs.length k).set k y := by intro y; rw [hrow, List.set_set]
                rw [← hrow] at hown
                have ⟨ci, fi⟩ := hown.at' hrl.symm (i := k) (by omega)
                rw [hrk] at ci
                have hput := hown.put hrl.symm k ((lvTo ss ((belowTo xs (k : Int) xs.length : Nat) : Int) j + 1 : Nat) : Int)
                rw [hrs] at hput
                have HP := Lib.hid hput
                clear hput hrow hrl hrk hrs hown
                go_wp2_with fail
                go_roundw
                case rel =>
                  refine ⟨j + 1, by omega, by go_num, ?_, hb.setCell (p := ⟨w2.heap.size, k, none⟩) (Nat.le_refl _) _, hA.set (p := ⟨w2.heap.size, k, none⟩) _ (show w.heap.size ≠ w2.heap.size by omega)⟩
                  have := HP.out.1
                  simp only [lvTo, HN.out, if_true]
                  exact this
                case measure => simp [intOf]; omega
          · obtain rfl : j = ss.length := by omega
            have hnext : (rowF (lv xs) xs.length k).set k ((lvTo ss ((belowTo xs (k : Int) xs.length : Nat) : Int) ss.length : Nat) : Int) = rowF (lv xs) xs.length (k + 1) := by
              rw [← rowF_set _ hlt, HLV.out]
            rw [hnext] at hown
            have HN := Lib.hid hown
            clear hnext hown
            go_wp2_with fail
            go_roundw
            case rel => exact ⟨k + 1, by omega, by go_num, HN.out, hb, hA⟩
            case measure => simp [intOf]; omega
      · obtain rfl : k = xs.length := by omega
        rw [rowF_end] at hown
        go_wp2_with fail
        refine bodyPost_ret (v := .tuple #[.slice (some ⟨w2.heap.size, 0, none⟩) xs.length xs.length, .bool true]) (by simp [results, Try.results42, go_sem]) rfl ?_
        exact ⟨some ⟨w2.heap.size, 0, none⟩, xs.length, by rw [H1.out, levs_len], by rw [H1.out, levs_len]; exact hown.mono bw2.size, bw2.trans (hb.mono bw2.size)⟩

theorem sub_le {a b : Nat} (h : sub a b = 0) : a ≤ b := by
  have e : a &&& b = a := by
    apply Nat.eq_of_testBit_eq
    intro i
    rw [Nat.testBit_and]
    cases ha : a.testBit i
    · simp
    · simp [sub_zero.1 h i ha]
  rw [← e]; exact Nat.and_le_right
/-- in an interval order one of two lower sets is a part of the other one -/
theorem chain {n : Int} {xs : List Int} (hp : RelP n xs) (h : twoF xs = none) {i j : Nat} (hi : i < xs.length) (hj : j < xs.length) :
    sub (belowTo xs (i : Int) xs.length) (belowTo xs (j : Int) xs.length) = 0 ∨ sub (belowTo xs (j : Int) xs.length) (belowTo xs (i : Int) xs.length) = 0 := by
  by_cases h1 : sub (belowTo xs (i : Int) xs.length) (belowTo xs (j : Int) xs.length) = 0
  · exact .inl h1
  · right
    rw [sub_zero]
    intro c hc
    rw [sub_zero] at h1
    simp only [Classical.not_forall] at h1
    obtain ⟨a, ha, hna⟩ := h1
    rw [belowTo_bit] at ha hna hc ⊢
    simp only [Bool.and_eq_true, decide_eq_true_eq] at ha hc ⊢
    refine ⟨hc.1, ?_⟩
    cases hci : hasB (nth xs c) i
    · exfalso
      have haj : hasB (nth xs a) j = false := by simpa [ha.1] using hna
      have hr : refB xs a i c j = true := by simp [refB, ha.2, hc.2, hci, haj]
      have hs : pairF xs a i ≠ none := by
        rw [pairF_ref]
        intro e
        have e1 : find1 (refF xs a i c) xs.length = none := by
          unfold find1 at e ⊢
          rw [List.findSome?_eq_none_iff] at e
          exact e c (by simpa using hc.1)
        unfold find1 at e1
        rw [List.findSome?_eq_none_iff] at e1
        have := e1 j (by simpa using hj)
        rw [refF, hr] at this
        cases this
      unfold twoF find1 at h
      rw [List.findSome?_eq_none_iff] at h
      have h2 := h a (by simpa using ha.1)
      rw [List.findSome?_eq_none_iff] at h2
      exact hs (h2 i (by simpa using hi))
    · rfl
theorem less_sets {n : Int} {xs : List Int} (hp : RelP n xs) (h : twoF xs = none) {p q : Nat} (hpl : p < (sets xs).length) (hql : q < (sets xs).length) : lessB (nth (sets xs) p) (nth (sets xs) q) = decide (p < q) := by
  have hinc := setsTo_inc xs xs.length
  obtain ⟨i, hi, ei⟩ := (setsTo_mem xs (nth (sets xs) p) xs.length).1 (by rw [nth_get _ _ hpl]; exact List.getElem_mem _)
  obtain ⟨j, hj, ej⟩ := (setsTo_mem xs (nth (sets xs) q) xs.length).1 (by rw [nth_get _ _ hql]; exact List.getElem_mem _)
  rw [ei, ej]
  rcases Nat.lt_trichotomy p q with hlt | rfl | hgt
  · have hlt2 : nth (sets xs) p < nth (sets xs) q := inc_nth hinc hlt hql
    rw [ei, ej] at hlt2
    simp only [lessB, hlt, decide_true, Int.toNat_natCast, Bool.and_eq_true, bne_iff_ne, beq_iff_eq]
    refine ⟨by omega, ?_⟩
    rcases chain hp h hi hj with h1 | h1
    · exact h1
    · have := sub_le h1; omega
  · rw [ei] at ej
    simp [lessB, ← ej]
  · have hlt2 : nth (sets xs) q < nth (sets xs) p := inc_nth hinc hgt hpl
    rw [ei, ej] at hlt2
    have hn : ¬ p < q := by omega
    simp only [lessB, hn, decide_false, Int.toNat_natCast, Bool.and_eq_false_iff, bne_eq_false_iff_eq, beq_eq_false_iff_ne]
    right
    intro h1
    have := sub_le h1; omega
/-- the level is the place of the lower set among all -/
theorem lv_place {n : Int} {xs : List Int} (hp : RelP n xs) (h : twoF xs = none) {i : Nat} (hi : i < xs.length) : ∃ q, q < (sets xs).length ∧ nth (sets xs) q = ((belowTo xs (i : Int) xs.length : Nat) : Int) ∧ lv xs i = (q : Int) := by
  have hm : ((belowTo xs (i : Int) xs.length : Nat) : Int) ∈ sets xs := (setsTo_mem xs _ xs.length).2 ⟨i, hi, rfl⟩
  obtain ⟨q, hq, e⟩ := List.getElem_of_mem hm
  rw [← nth_get _ _ hq] at e
  refine ⟨q, hq, e, ?_⟩
  have hl : ∀ m, m ≤ (sets xs).length → lvTo (sets xs) (nth (sets xs) q) m = min m q := by
    intro m
    induction m with
    | zero => intro _; simp [lvTo]
    | succ m ih =>
      intro hm
      simp only [lvTo]
      rw [less_sets hp h (by omega) hq, ih (by omega)]
      by_cases hmq : m < q
      · simp [hmq]; omega
      · simp [hmq]; omega
  unfold lv
  rw [← e, hl _ (Nat.le_refl _)]
  congr 1
  omega
theorem most_levels {n : Int} {xs : List Int} (hp : RelP n xs) (h : twoF xs = none) : mostTo (levs xs xs.length) xs.length + 1 = ((sets xs).length : Int) := by
  have hlv : ∀ j, j < xs.length → nth (levs xs xs.length) j = lv xs j := fun j hj => fmap_nth _ hj
  have h1 : mostTo (levs xs xs.length) xs.length ≤ ((sets xs).length : Int) - 1 := by
    refine mostTo_le (by omega) _ (fun j hj => ?_)
    rw [hlv j hj]
    obtain ⟨q, hq, _, e⟩ := lv_place hp h hj
    omega
  by_cases h0 : (sets xs).length = 0
  · have hx : xs.length = 0 := by
      rcases Nat.eq_zero_or_pos xs.length with h2 | h2
      · exact h2
      · obtain ⟨q, hq, _⟩ := lv_place hp h h2
        omega
    rw [hx, h0]; rfl
  · have hm : nth (sets xs) ((sets xs).length - 1) ∈ sets xs := by rw [nth_get _ _ (by omega)]; exact List.getElem_mem _
    obtain ⟨j, hj, e⟩ := (setsTo_mem xs _ xs.length).1 hm
    obtain ⟨q, hq, e2, e3⟩ := lv_place hp h hj
    have hq2 : q = (sets xs).length - 1 := by
      rcases Nat.lt_trichotomy q ((sets xs).length - 1) with hlt | h3 | hgt
      · have := inc_nth (setsTo_inc xs xs.length) hlt (show (sets xs).length - 1 < (setsTo xs xs.length).length by show _ < (sets xs).length; omega)
        have e4 : nth (setsTo xs xs.length) q = nth (sets xs) q := rfl
        have e5 : nth (setsTo xs xs.length) ((sets xs).length - 1) = nth (sets xs) ((sets xs).length - 1) := rfl
        rw [e4, e5, e2, e] at this
        omega
      · exact h3
      · omega
    have h4 := mostTo_ge (levs xs xs.length) xs.length j hj
    rw [hlv j hj, e3] at h4
    omega
/-- the magnitude -/
def magF (n : Int) (xs : List Int) : Int := if isIv n xs then ((sets xs).length : Int) else 0

theorem ret_ib' {a a' : Int} {b b' : Bool} (h1 : a = a') (h2 : b = b') : Ending.returned (.tuple #[.int .i64 a, .bool b]) = .returned (.tuple #[.int .i64 a', .bool b']) := by rw [h1, h2]

theorem iMagnitude_any (n : Int) (a : Option Addr) (xs : List Int) (cap : Nat) (w : World) (hn : -9223372036854775808 ≤ n ∧ n ≤ 9223372036854775807) (hx : Rd w a xs) :
    Calls Try.prog 44 #[.agg #[.int .i64 n, .slice a xs.length cap]] w fun e w' => e = .returned (.tuple #[.int .i64 (magF n xs), .bool (isIv n xs)]) ∧ Below w.heap.size w w' := by
  have hx1 := hx.alloc (.cells #[.int .i64 n, .slice a xs.length cap] 26)
  cases hr : isIv n xs
  · have H1 : Hid (magF n xs = 0) := by simp [Hid, magF, hr]
    have HR := Lib.hid hr
    clear hr
    go_enter Try.func44, Try.ntmps44
    go_wp2_with fail
    refine (iIsInterval_any _ _ _ _ _ hn hx1).mono ?_
    rw [HR.out]
    rintro e w1 ⟨rfl, hb1⟩
    have bw1 : Below w.heap.size w w1 := Below.trans (by repeat (first | exact Below.refl _ _ | assumption | refine Below.alloc ?_ (by first | exact Nat.le_refl _ | (simp only [World.size_alloc, World.size_setCell, World.size_drew]; omega) | omega) _ | refine Below.setCell ?_ (by first | exact Nat.le_refl _ | (simp only [World.size_alloc, World.size_setCell, World.size_drew]; omega) | omega) _ | refine Below.drew ?_)) (hb1.mono (by first | (simp only [World.size_alloc, World.size_setCell, World.size_drew]; omega) | omega))
    go_wp2_with fail
    go_ret2
    exact ⟨ret_ib' H1.out.symm rfl, bw1⟩
  · have ho := isIv_ord hr
    have hp := ord_rel ho
    have hsl := sets_len xs
    have hl10 : xs.length ≤ 10 := by have := hp.len; have := hp.n1; omega
    have H1 : Hid (magF n xs = ((sets xs).length : Int)) := by rw [Hid, magF, if_pos hr]
    have HR := Lib.hid hr
    have HO := Lib.hid ho
    clear hr ho
    go_enter Try.func44, Try.ntmps44
    go_wp2_with fail
    refine (iIsInterval_any _ _ _ _ _ hn hx1).mono ?_
    rw [HR.out, HO.out]
    rintro e w1 ⟨rfl, hb1⟩
    have A1 : Box2 w1 w.heap.size (.int .i64 n) (.slice a xs.length cap) := (Box2.new w _ _ _).below hb1
    have bw1 : Below w.heap.size w w1 := Below.trans (by repeat (first | exact Below.refl _ _ | assumption | refine Below.alloc ?_ (by first | exact Nat.le_refl _ | (simp only [World.size_alloc, World.size_setCell, World.size_drew]; omega) | omega) _ | refine Below.setCell ?_ (by first | exact Nat.le_refl _ | (simp only [World.size_alloc, World.size_setCell, World.size_drew]; omega) | omega) _ | refine Below.drew ?_)) (hb1.mono (by first | (simp only [World.size_alloc, World.size_setCell, World.size_drew]; omega) | omega))
    have ⟨zA, cA, dA⟩ := A1
    clear hb1
    go_wp2_with fail
    refine (lowerSets_any _ _ _ _ _ (hx.below bw1) hp).mono ?_
    rintro e w2 ⟨a2, cap2, rfl, ho2, hb2⟩
    clear ho2
    go_wp2_with fail
    go_ret2
    exact ⟨ret_ib' H1.out.symm rfl, bw1.trans (hb2.mono bw1.size)⟩

def maxI (a b : Int) : Int := if b < a then a else b
theorem l1Most_any (a b : Int) (w : World) : Calls Try.prog 74 #[.int .i64 a, .int .i64 b] w fun e w' => e = .returned (.int .i64 (maxI a b)) ∧ w = w' := by
  by_cases h : b < a
  · have H : Hid (maxI a b = a) := by rw [Hid, maxI, if_pos h]
    go_enter Try.func74, Try.ntmps74
    go_wp2
    go_ret
    exact ⟨ret_int H.out.symm, rfl⟩
  · have H : Hid (maxI a b = b) := by rw [Hid, maxI, if_neg h]
    go_enter Try.func74, Try.ntmps74
    go_wp2
    go_ret
    exact ⟨ret_int H.out.symm, rfl⟩

theorem infoIv : (Try.prog.info? 54).map (fun i => (i.zero, i.size, i.bytes)) = some (some (.agg #[.int .i64 0, .int .i64 0]), 2, 16) := by kernel_rfl
/-- a slice value that owns the row of these pairs, laid flat, in a block from B on -/
def OwnV (w : World) (B : Nat) (v : Value) (n : Nat) (cs : List Int) : Prop := w.ownsRow B 54 2 v n (cs.map (Value.int .i64))
theorem OwnV.len {w : World} {B n : Nat} {v : Value} {cs : List Int} (h : OwnV w B v n cs) : cs.length = n * 2 := by simpa using h.1
theorem OwnV.form {w : World} {B n : Nat} {v : Value} {cs : List Int} (h : OwnV w B v n cs) : ∃ a cap, v = .slice a n cap := by
  rcases h.2 with ⟨rfl, h0⟩ | ⟨g, cap, cur, rfl, _⟩
  · exact ⟨none, 0, by rw [h0]⟩
  · exact ⟨_, _, rfl⟩
theorem OwnV.rd {w : World} {B n m cap : Nat} {a : Option Addr} {cs : List Int} (h : OwnV w B (.slice a m cap) n cs) (hn0 : n ≤ 1048576) : Rd w a cs := by
  have hl := h.len
  rcases h.2 with ⟨e, h0⟩ | ⟨g, cap', cur, e, hb, hg, hn, hm, hs, ht⟩
  · exact ⟨by omega, fun k hk => by omega⟩
  · simp only [Value.slice.injEq] at e
    obtain ⟨rfl, rfl, rfl⟩ := e
    refine ⟨by omega, fun k hk => ⟨g, 0, rfl, (Array.getElem?_eq_some_iff.1 hg).1, ?_⟩⟩
    have := World.ownsRow.cellAt h k (by omega)
    rw [Nat.zero_add, this]
    simp [nth, hk]
theorem OwnV.kept {w w' : World} {B n : Nat} {v : Value} {cs : List Int} {row : Option Nat} (h : OwnV w B v n cs) (hg : w.grownBy w' row) (hne : v.ownBlock = none ∨ v.ownBlock ≠ row) : OwnV w' B v n cs := World.ownsRow.kept h hg hne
theorem OwnV.mono {w : World} {B B' n : Nat} {v : Value} {cs : List Int} (h : OwnV w B v n cs) (hB : B' ≤ B) : OwnV w B' v n cs := by
  refine ⟨h.1, ?_⟩
  rcases h.2 with hn | ⟨g, cap, cur, e, hb, rest⟩
  · exact .inl hn
  · exact .inr ⟨g, cap, cur, e, by omega, rest⟩
theorem OwnV.below {w w' : World} {B B' n : Nat} {v : Value} {cs : List Int} (h : OwnV w B v n cs) (hb : Below B' w w') (hB : w.heap.size ≤ B') : OwnV w' B v n cs := by
  refine ⟨h.1, ?_⟩
  rcases h.2 with hn | ⟨g, cap, cur, e, hb', hg, rest⟩
  · exact .inl hn
  · refine .inr ⟨g, cap, cur, e, hb', ?_, rest⟩
    rw [hb.block g (by have := (Array.getElem?_eq_some_iff.1 hg).1; omega)]
    exact hg
theorem OwnV.lt {w : World} {B n : Nat} {v : Value} {cs : List Int} (h : OwnV w B v n cs) : ∀ b, v.ownBlock = some b → B ≤ b ∧ b < w.heap.size := World.ownsRow.lt h
theorem OwnV.cut {w : World} {B n : Nat} {v : Value} {cs : List Int} (h : OwnV w B v n cs) {U : Nat} (hU : w.heap.size ≤ U) : ∀ b, v.ownBlock = some b → B ≤ b ∧ b < U := fun b e => ⟨(h.lt b e).1, Nat.lt_of_lt_of_le (h.lt b e).2 hU⟩
theorem OwnV.nil (w : World) (B : Nat) : OwnV w B (.slice none 0 0) 0 [] := World.ownsRow_nil _ _ _ _
theorem OwnV.alloc {w : World} {B n : Nat} {v : Value} {cs : List Int} (h : OwnV w B v n cs) (o : Obj) : OwnV (w.alloc o) B v n cs := h.below ((Below.refl _ _).alloc (Nat.le_refl _) o) (Nat.le_refl _)
theorem OwnV.capLe {w : World} {B n m cap : Nat} {a : Option Addr} {cs : List Int} (h : OwnV w B (.slice a m cap) n cs) : m ≤ cap := by
  rcases h.2 with ⟨e, _⟩ | ⟨g, cap', cur, e, _, _, hc, _⟩
  · simp only [Value.slice.injEq] at e
    omega
  · simp only [Value.slice.injEq] at e
    omega
theorem set_ints' (xs : List Int) (i : Nat) (x : Int) : (xs.map (Value.int .i64)).set i (.int .i64 x) = (xs.set i x).map (Value.int .i64) := by
  rw [List.map_set]
theorem OwnV.put {w : World} {B g n cap : Nat} {cs : List Int} (h : OwnV w B (.slice (some ⟨g, 0, none⟩) n cap) n cs) (i : Nat) (x : Int) :
    OwnV (w.setCell ⟨g, i, none⟩ (.int .i64 x)) B (.slice (some ⟨g, 0, none⟩) n cap) n (cs.set i x) ∧ w.grownBy (w.setCell ⟨g, i, none⟩ (.int .i64 x)) (some g) := by
  have hst := World.ownsRow.stored h i (.int .i64 x)
  rw [set_ints'] at hst
  exact hst
theorem OwnV.at' {w : World} {B g n cap : Nat} {cs : List Int} (h : OwnV w B (.slice (some ⟨g, 0, none⟩) n cap) n cs) {i : Nat} (hi : i < cs.length) :
    w.cell? ⟨g, i, none⟩ = some (.int .i64 (nth cs i)) ∧ w.frozen? ⟨g, i, none⟩ = false := by
  have hl := h.len
  refine ⟨?_, World.ownsRow.frozenAt h i⟩
  rw [World.ownsRow.cellAt h i (by omega)]
  simp [nth, hi]
theorem OwnV.head {w : World} {B n cap : Nat} {a : Option Addr} {cs : List Int} (h : OwnV w B (.slice a n cap) n cs) (hp : 0 < n) : ∃ g, a = some ⟨g, 0, none⟩ ∧ B ≤ g ∧ g < w.heap.size := by
  rcases h.2 with ⟨e, h0⟩ | ⟨g, c, cur, e, hb, hg, _⟩
  · omega
  · simp only [Value.slice.injEq] at e
    exact ⟨g, e.1, hb, (Array.getElem?_eq_some_iff.1 hg).1⟩
/-- the two ends of the pair k -/
def lft (cs : List Int) (k : Nat) : Int := nth cs (k * 2)
def rgt (cs : List Int) (k : Nat) : Int := nth cs (k * 2 + 1)
theorem Rd.pair {w : World} {a : Option Addr} {cs : List Int} (h : Rd w a cs) {k n : Nat} (hl : cs.length = n * 2) (hk : k < n) :
    ∃ b off, a = some ⟨b, off, none⟩ ∧ b < w.heap.size ∧ w.cell? ⟨b, off + k * 2, none⟩ = some (.int .i64 (lft cs k)) ∧ w.cell? ⟨b, off + k * 2 + 1, none⟩ = some (.int .i64 (rgt cs k)) := by
  obtain ⟨b, off, e, hb, hc⟩ := h.cell (k * 2) (by omega)
  obtain ⟨b', off', e', hb', hc'⟩ := h.cell (k * 2 + 1) (by omega)
  rw [e] at e'
  simp only [Option.some.injEq, Addr.mk.injEq, and_true] at e'
  obtain ⟨rfl, rfl⟩ := e'
  exact ⟨b, off, e, hb, hc, by rw [Nat.add_assoc]; exact hc'⟩

theorem infoZ : (Value.agg #[.int .i64 0, .int .i64 0]).cells = #[.int .i64 0, .int .i64 0] := rfl
/-- the pairs of which the first k have been copied -/
def cpV (cs : List Int) (n k : Nat) : List Int := cs.take (k * 2) ++ List.replicate (n * 2 - k * 2) 0
theorem cpV_len {cs : List Int} {n k : Nat} (h : cs.length = n * 2) (hk : k ≤ n) : (cpV cs n k).length = n * 2 := by
  simp [cpV]; omega
theorem cpV_end {cs : List Int} {n : Nat} (h : cs.length = n * 2) : cpV cs n n = cs := by
  simp [cpV, List.take_of_length_le, h]
theorem cpV_nth {cs : List Int} {n k j : Nat} (h : cs.length = n * 2) (hj : j < n * 2) (hk : k ≤ n) : nth (cpV cs n k) j = if j < k * 2 then nth cs j else 0 := by
  simp only [nth, cpV, List.getD_eq_getElem?_getD, List.getElem?_append, List.length_take, List.getElem?_take, List.getElem?_replicate]
  by_cases h1 : j < k * 2
  · have h2 : j < min (k * 2) cs.length := by omega
    simp [h1, h2]
  · have h2 : ¬ j < min (k * 2) cs.length := by omega
    have h3 : j - min (k * 2) cs.length < n * 2 - k * 2 := by omega
    simp [h1, h2, h3]
theorem nth_ext' {xs ys : List Int} (hl : xs.length = ys.length) (h : ∀ i, i < xs.length → nth xs i = nth ys i) : xs = ys := by
  apply List.ext_getElem hl
  intro i h1 h2
  have := h i h1
  rwa [nth_get xs i h1, nth_get ys i h2] at this
theorem nth_set' {xs : List Int} {i j : Nat} {x : Int} (hi : i < xs.length) : nth (xs.set i x) j = if i = j then x else nth xs j := by
  simp only [nth, List.getD_eq_getElem?_getD, List.getElem?_set]
  by_cases h : i = j
  · subst h; simp [hi]
  · simp [h]
theorem cpV_next {cs : List Int} {n k : Nat} (h : cs.length = n * 2) (hk : k < n) : ((cpV cs n k).set (k * 2) (lft cs k)).set (k * 2 + 1) (rgt cs k) = cpV cs n (k+1) := by
  have h1 := cpV_len h (Nat.le_of_lt hk)
  apply nth_ext' (by rw [List.length_set, List.length_set, h1, cpV_len h (by omega)])
  intro i hi
  rw [List.length_set, List.length_set, h1] at hi
  rw [nth_set' (by rw [List.length_set, h1]; omega), nth_set' (by rw [h1]; omega), cpV_nth h hi (by omega), cpV_nth h hi (by omega)]
  by_cases e1 : k * 2 + 1 = i
  · subst e1; rw [if_pos rfl, if_pos (by omega)]; rfl
  · rw [if_neg e1]
    by_cases e2 : k * 2 = i
    · subst e2; rw [if_pos rfl, if_pos (by omega)]; rfl
    · rw [if_neg e2]
      by_cases e3 : i < k * 2
      · rw [if_pos e3, if_pos (by omega)]
      · rw [if_neg e3, if_neg (by omega)]
theorem made_pairs {w1 : World} {B : Nat} {v : Value} {n : Nat} (cs : List Int) (h : w1.ownsRow B 54 2 v n (madeCells (Value.agg #[.int .i64 0, .int .i64 0]).cells (n * 2)).toList) : OwnV w1 B v n (cpV cs n 0) := by
  have hl := h.1
  unfold OwnV
  have e : (madeCells (Value.agg #[.int .i64 0, .int .i64 0]).cells (n * 2)).toList = (cpV cs n 0).map (Value.int .i64) := by
    apply List.ext_getElem?
    intro j
    have h0 : j % 2 = 0 ∨ j % 2 = 1 := by omega
    simp only [cpV, Nat.zero_mul, List.take_zero, List.nil_append, Nat.sub_zero, List.map_replicate, List.getElem?_replicate]
    by_cases hj : j < n * 2
    · rw [if_pos hj]
      simp only [madeCells, infoZ, Array.toList_map, Array.toList_range, List.getElem?_map, List.getElem?_range hj, Option.map_some]
      rcases h0 with e | e <;> simp [e]
    · rw [if_neg hj, List.getElem?_eq_none]
      omega
  rw [← e]
  exact h

/-- the flat list of the pairs f k, g k -/
def prs (f g : Nat → Int) (n : Nat) : List Int := fmap (fun j => if j % 2 = 0 then f (j / 2) else g (j / 2)) (n * 2)
theorem prs_len (f g : Nat → Int) (n : Nat) : (prs f g n).length = n * 2 := fmap_len _ _
theorem prs_nth (f g : Nat → Int) {n j : Nat} (h : j < n * 2) : nth (prs f g n) j = if j % 2 = 0 then f (j / 2) else g (j / 2) := fmap_nth _ h
theorem prs_lft (f g : Nat → Int) {n k : Nat} (h : k < n) : lft (prs f g n) k = f k := by
  rw [lft, prs_nth f g (by omega), if_pos (by omega)]; congr 1; omega
theorem prs_rgt (f g : Nat → Int) {n k : Nat} (h : k < n) : rgt (prs f g n) k = g k := by
  rw [rgt, prs_nth f g (by omega), if_neg (by omega)]; congr 1; omega
theorem prs_succ (f g : Nat → Int) (k : Nat) : prs f g (k+1) = prs f g k ++ [f k, g k] := by
  unfold prs
  rw [show (k+1) * 2 = k * 2 + 1 + 1 from by omega, fmap_succ, fmap_succ, List.append_assoc]
  congr 1
  rw [if_pos (by omega), if_neg (by omega)]
  rw [show k * 2 / 2 = k from by omega, show (k * 2 + 1) / 2 = k from by omega]
  rfl
/-- the row of n pairs of which k are filled -/
def rowP (f g : Nat → Int) (n k : Nat) : List Int := prs f g k ++ List.replicate (n * 2 - k * 2) 0
theorem rowP_len (f g : Nat → Int) {n k : Nat} (h : k ≤ n) : (rowP f g n k).length = n * 2 := by simp [rowP, prs_len]; omega
theorem rowP_end (f g : Nat → Int) (n : Nat) : rowP f g n n = prs f g n := by simp [rowP]
theorem rowP_nth (f g : Nat → Int) {n k j : Nat} (hk : k ≤ n) (hj : j < n * 2) : nth (rowP f g n k) j = if j < k * 2 then (if j % 2 = 0 then f (j / 2) else g (j / 2)) else 0 := by
  simp only [rowP, nth, List.getD_eq_getElem?_getD, List.getElem?_append, prs_len, List.getElem?_replicate]
  by_cases h1 : j < k * 2
  · rw [if_pos h1, if_pos h1]
    have := prs_nth f g h1
    rw [nth, List.getD_eq_getElem?_getD] at this
    exact this
  · rw [if_neg h1, if_neg h1, if_pos (by omega)]; rfl
theorem rowP_next (f g : Nat → Int) {n k : Nat} (hk : k < n) : ((rowP f g n k).set (k * 2) (f k)).set (k * 2 + 1) (g k) = rowP f g n (k+1) := by
  have h1 := rowP_len f g (Nat.le_of_lt hk)
  apply nth_ext' (by rw [List.length_set, List.length_set, h1, rowP_len f g (by omega)])
  intro i hi
  rw [List.length_set, List.length_set, h1] at hi
  rw [nth_set' (by rw [List.length_set, h1]; omega), nth_set' (by rw [h1]; omega), rowP_nth f g (by omega) hi, rowP_nth f g (by omega) hi]
  by_cases e1 : k * 2 + 1 = i
  · subst e1; rw [if_pos rfl, if_pos (show k * 2 + 1 < (k + 1) * 2 by omega), if_neg (show ¬ (k * 2 + 1) % 2 = 0 by omega)]; congr 1; omega
  · rw [if_neg e1]
    by_cases e2 : k * 2 = i
    · subst e2; rw [if_pos rfl, if_pos (show k * 2 < (k + 1) * 2 by omega), if_pos (show k * 2 % 2 = 0 by omega)]; congr 1; omega
    · rw [if_neg e2]
      by_cases e3 : i < k * 2
      · rw [if_pos e3, if_pos (show i < (k + 1) * 2 by omega)]
      · rw [if_neg e3, if_neg (show ¬ i < (k + 1) * 2 by omega)]
theorem made_rowP {w1 : World} {B : Nat} {v : Value} {n : Nat} (f g : Nat → Int) (h : w1.ownsRow B 54 2 v n (madeCells (Value.agg #[.int .i64 0, .int .i64 0]).cells (n * 2)).toList) : OwnV w1 B v n (rowP f g n 0) := by
  have h1 := made_pairs [] h
  have e : cpV [] n 0 = rowP f g n 0 := by simp [cpV, rowP, prs, fmap]
  rw [e] at h1
  exact h1
/-- what a call hands back that makes intervals -/
def GotV (w : World) (n : Nat) (cs : List Int) (ok : Bool) (e : Ending) (w' : World) : Prop :=
  ∃ a cap, e = .returned (.tuple #[.slice a n cap, .bool ok]) ∧ OwnV w' w.heap.size (.slice a n cap) n cs ∧ Below w.heap.size w w'
/-- the pair that stands in a new block of its own -/
theorem cell_two_new (w : World) (x y : Value) (t : TypeId) : ∀ j u, [x, y][j]? = some u → (w.alloc (.cells #[x, y] t)).cell? ((⟨w.heap.size, 0, none⟩ : Addr).add j) = some u := by
  intro j u hj
  match j, hj with
  | 0, hj => simp at hj; subst hj; simp [Addr.add]
  | 1, hj => simp at hj; subst hj; simp [Addr.add]
theorem two_one (x y : Int) : ∀ u ∈ [Value.int .i64 x, .int .i64 y], u.oneCell' = true := by
  intro u hu
  simp at hu
  rcases hu with rfl | rfl <;> rfl

/-- the greatest level of the first k elements that are not better than i, or st -/
def rtTo (st : Int) (xs : List Int) (i : Nat) : Nat → Int
  | 0 => st
  | k+1 => if hasB (nth xs i) k then rtTo st xs i k else maxI (rtTo st xs i k) (lv xs k)
theorem rtTo_st (st : Int) (xs : List Int) (i : Nat) : ∀ (k : Nat), st ≤ rtTo st xs i k
  | 0 => Int.le_refl _
  | k+1 => by
    have := rtTo_st st xs i k
    simp only [rtTo, maxI]
    split
    · exact this
    · split <;> omega
theorem rtTo_ge (st : Int) (xs : List Int) (i : Nat) : ∀ (k j : Nat), j < k → hasB (nth xs i) j = false → lv xs j ≤ rtTo st xs i k
  | 0, j, hj, _ => by omega
  | k+1, j, hj, h => by
    simp only [rtTo, maxI]
    by_cases e : j = k
    · subst e
      rw [h]
      simp only [Bool.false_eq_true, if_false]
      split <;> omega
    · have := rtTo_ge st xs i k j (by omega) h
      split
      · exact this
      · split <;> omega
theorem rtTo_le {st : Int} {xs : List Int} {i : Nat} {B : Int} (h0 : st ≤ B) : ∀ (k : Nat), (∀ (j : Nat), j < k → hasB (nth xs i) j = false → lv xs j ≤ B) → rtTo st xs i k ≤ B
  | 0, _ => h0
  | k+1, h => by
    have h1 := rtTo_le (xs := xs) (i := i) h0 k (fun j hj => h j (by omega))
    simp only [rtTo, maxI]
    cases hb : hasB (nth xs i) k
    · have h2 := h k (by omega) hb
      simp only [Bool.false_eq_true, if_false]
      split <;> omega
    · exact h1
/-- the right end -/
def rtE (xs : List Int) (i : Nat) : Int := rtTo 0 xs i xs.length
theorem rtE_own {n : Int} {xs : List Int} (h : ordB n xs = true) {i : Nat} (hi : i < xs.length) : rtTo (lv xs i) xs i xs.length = rtE xs i := by
  have hii : hasB (nth xs i) i = false := (okAtB_iff.1 ((ordB_iff.1 h).2 i hi)).1
  have h1 := rtTo_le (st := 0) (xs := xs) (i := i) (B := rtTo (lv xs i) xs i xs.length) (by have := rtTo_st (lv xs i) xs i xs.length; have := (lv_bd xs i).1; omega) xs.length (fun j hj hb => rtTo_ge _ xs i _ j hj hb)
  have h2 := rtTo_le (st := lv xs i) (xs := xs) (i := i) (B := rtTo 0 xs i xs.length) (rtTo_ge 0 xs i _ i hi hii) xs.length (fun j hj hb => rtTo_ge _ xs i _ j hj hb)
  unfold rtE; omega
theorem rtTo_bd {st : Int} {xs : List Int} {i k : Nat} (h0 : 0 ≤ st) (h1 : st ≤ xs.length) : 0 ≤ rtTo st xs i k ∧ rtTo st xs i k ≤ xs.length :=
  ⟨by have := rtTo_st st xs i k; omega, rtTo_le h1 k (fun j _ _ => (lv_bd xs j).2)⟩
/-- all ends, laid flat -/
def endp (xs : List Int) (k : Nat) : List Int := prs (lv xs) (rtE xs) k
def endN (n : Int) (xs : List Int) : Nat := if isIv n xs then xs.length else 0
def endL (n : Int) (xs : List Int) : List Int := if isIv n xs then endp xs xs.length else []
theorem endN_le {n : Int} {xs : List Int} : endN n xs ≤ 1048576 := by
  unfold endN
  split
  · rename_i h
    have hp := ord_rel (isIv_ord h)
    have := hp.len; have := hp.n1; omega
  · omega
theorem endL_len (n : Int) (xs : List Int) : (endL n xs).length = endN n xs * 2 := by
  unfold endL endN
  split
  · exact prs_len _ _ _
  · rfl
theorem levs_nth (xs : List Int) {k j : Nat} (h : j < k) : nth (levs xs k) j = lv xs j := fmap_nth _ h
theorem rtTo_no {st : Int} {xs : List Int} {k j : Nat} (h : hasB (nth xs k) j = false) : rtTo st xs k (j+1) = maxI (rtTo st xs k j) (lv xs j) := by
  rw [rtTo, if_neg (by rw [h]; simp)]

/-- the row while the right end of k is being found -/
def endRow (xs : List Int) (k j : Nat) : List Int := ((rowP (lv xs) (rtE xs) xs.length k).set (k * 2) (lv xs k)).set (k * 2 + 1) (rtTo 0 xs k j)
theorem endRow_len (xs : List Int) {k : Nat} (j : Nat) (h : k ≤ xs.length) : (endRow xs k j).length = xs.length * 2 := by
  rw [endRow, List.length_set, List.length_set, rowP_len _ _ h]
theorem endRow_zero (xs : List Int) {k : Nat} (h : k < xs.length) : (rowP (lv xs) (rtE xs) xs.length k).set (k * 2) (lv xs k) = endRow xs k 0 := by
  have hl := rowP_len (lv xs) (rtE xs) (Nat.le_of_lt h)
  apply nth_ext' (by rw [endRow_len xs 0 (by omega), List.length_set, hl])
  intro i hi
  rw [List.length_set, hl] at hi
  rw [endRow, nth_set' (xs := (rowP (lv xs) (rtE xs) xs.length k).set (k * 2) (lv xs k)) (by rw [List.length_set, hl]; omega)]
  by_cases e : k * 2 + 1 = i
  · subst e
    rw [if_pos rfl, nth_set' (by rw [hl]; omega), if_neg (by omega), rowP_nth _ _ (by omega) hi, if_neg (by omega)]
    rfl
  · rw [if_neg e]
theorem endRow_end (xs : List Int) {k : Nat} (h : k < xs.length) : endRow xs k xs.length = rowP (lv xs) (rtE xs) xs.length (k + 1) := rowP_next _ _ h
theorem endRow_set (xs : List Int) (k j : Nat) (y : Int) : (endRow xs k j).set (k * 2 + 1) y = ((rowP (lv xs) (rtE xs) xs.length k).set (k * 2) (lv xs k)).set (k * 2 + 1) y := by
  rw [endRow, List.set_set]
theorem endRow_nth (xs : List Int) {k : Nat} (j : Nat) (h : k < xs.length) : nth (endRow xs k j) (k * 2 + 1) = rtTo 0 xs k j := by
  rw [endRow, nth_set' (by rw [List.length_set, rowP_len _ _ (by omega)]; omega), if_pos rfl]
theorem endRow_yes {xs : List Int} {k j : Nat} (h : hasB (nth xs k) j = true) : endRow xs k (j+1) = endRow xs k j := by
  rw [endRow, endRow, rtTo, if_pos h]
theorem iEnds_any (n : Int) (a : Option Addr) (xs : List Int) (cap : Nat) (w : World) (hn : -9223372036854775808 ≤ n ∧ n ≤ 9223372036854775807) (hx : Rd w a xs) :
    Calls Try.prog 43 #[.agg #[.int .i64 n, .slice a xs.length cap]] w (GotV w (endN n xs) (endL n xs) (isIv n xs)) := by
  have hx1 := hx.alloc (.cells #[.int .i64 n, .slice a xs.length cap] 26)
  obtain ⟨i0, hi, hz0, hz1, hz2⟩ := info_parts infoIv
  cases hr : isIv n xs
  · have H1 : Hid (endN n xs = 0) := by simp [Hid, endN, hr]
    have H2 : Hid (endL n xs = []) := by simp [Hid, endL, hr]
    have H3 : Hid (levL n xs = []) := by simp [Hid, levL, hr]
    have HR := Lib.hid hr
    clear hr
    go_enter Try.func43, Try.ntmps43
    go_wp2_with fail
    refine (iLevels_any _ _ _ _ _ hn hx1).mono ?_
    rw [HR.out, H3.out]
    rintro e w1 ⟨a1, cap1, rfl, ho1, hb1⟩
    have bw1 : Below w.heap.size w w1 := Below.trans (by repeat (first | exact Below.refl _ _ | assumption | refine Below.alloc ?_ (by first | exact Nat.le_refl _ | (simp only [World.size_alloc, World.size_setCell, World.size_drew]; omega) | omega) _ | refine Below.setCell ?_ (by first | exact Nat.le_refl _ | (simp only [World.size_alloc, World.size_setCell, World.size_drew]; omega) | omega) _ | refine Below.drew ?_)) (hb1.mono (by first | (simp only [World.size_alloc, World.size_setCell, World.size_drew]; omega) | omega))
    clear ho1
    go_wp2_with fail
    refine bodyPost_ret (v := .tuple #[.slice none 0 0, .bool false]) (by simp [results, Try.results43, go_sem]) rfl ?_
    exact ⟨none, 0, by rw [H1.out], by rw [H1.out, H2.out]; exact OwnV.nil _ _, bw1⟩
  · have ho := isIv_ord hr
    have hp := ord_rel ho
    have H1 : Hid (endN n xs = xs.length) := by simp [Hid, endN, hr]
    have H2 : Hid (endL n xs = endp xs xs.length) := by simp [Hid, endL, hr]
    have H3 : Hid (levL n xs = levs xs xs.length) := by simp [Hid, levL, hr]
    have HR := Lib.hid hr
    obtain rfl : n = (xs.length : Int) := hp.len.symm
    have hl10 : xs.length ≤ 10 := by have := hp.n1; omega
    clear hr ho
    go_enter Try.func43, Try.ntmps43
    go_wp2_with fail
    refine (iLevels_any _ _ _ _ _ hn hx1).mono ?_
    rw [HR.out, H3.out, levs_len]
    rintro e w1 ⟨a1, cap1, rfl, ho1, hb1⟩
    have A1 : Box2 w1 w.heap.size (.int .i64 (xs.length : Int)) (.slice a xs.length cap) := (Box2.new w _ _ _).below hb1
    have bw1 : Below w.heap.size w w1 := Below.trans (by repeat (first | exact Below.refl _ _ | assumption | refine Below.alloc ?_ (by first | exact Nat.le_refl _ | (simp only [World.size_alloc, World.size_setCell, World.size_drew]; omega) | omega) _ | refine Below.setCell ?_ (by first | exact Nat.le_refl _ | (simp only [World.size_alloc, World.size_setCell, World.size_drew]; omega) | omega) _ | refine Below.drew ?_)) (hb1.mono (by first | (simp only [World.size_alloc, World.size_setCell, World.size_drew]; omega) | omega))
    have ⟨zA, cA, dA⟩ := A1
    have hrl : Rd w1 a1 (levs xs xs.length) := ho1.rd
    clear hb1 ho1
    go_wp2_with (at_make; refine wpList_make_full _ rfl (.tmp 19) (.tmp 19) 47 rfl w1.heap.size 54 i0 (.agg #[.int .i64 0, .int .i64 0]) 2 Try.underlying47 hi hz0 hz1 .i64 .i64 _ _ xs.length rfl rfl rfl rfl (by rw [hz2]; omega) (by unfold maxLen; omega) (Nat.le_refl _) ?_; intro w2 hown hgrow; have A2 := A1.kept hgrow (by simp))
    have hb2 : Below w1.heap.size w1 w2 := (Below.refl _ _).grown hgrow (Nat.le_refl _) (fun k h => by cases h)
    have hown0 := made_rowP (lv xs) (rtE xs) hown
    clear hown hgrow cA dA
    go_wp2_with fail
    go_loopw [23] (fun i wr => ∃ k : Nat, k ≤ xs.length ∧ i = .int .i64 k ∧ OwnV wr w1.heap.size (.slice (some ⟨w1.heap.size, 0, none⟩) xs.length xs.length) xs.length (rowP (lv xs) (rtE xs) xs.length k) ∧ Below w1.heap.size w1 wr ∧ Box2 wr w.heap.size (.int .i64 (xs.length : Int)) (.slice a xs.length cap)) (fun i _ => xs.length - (intOf i).toNat)
    case atStart => exact ⟨0, Nat.zero_le _, rfl, hown0, hb2, A2⟩
    case round =>
      obtain ⟨k, hk, rfl, hown, hb, hA⟩ := hrel
      by_cases hlt : k < xs.length
      · obtain ⟨b, off, rfl, hbl, hck⟩ := (hrl.below hb).cell k (by rw [levs_len]; exact hlt)
        rw [levs_nth xs hlt] at hck
        have k0 : (0 : Int) ≤ (k : Int) := by omega
        have k1 : (k : Int) < (xs.length : Int) := by omega
        have hpl := rowP_len (lv xs) (rtE xs) hk
        have ⟨c1, f1⟩ := hown.at' (i := k * 2) (by omega)
        have p1 := hown.put (k * 2) (lv xs k)
        rw [endRow_zero xs hlt] at p1
        have P1 := Lib.hid p1.1
        have A3 := hA.kept p1.2 (by simp; omega)
        have b3 := hb.setCell (p := ⟨w1.heap.size, k * 2, none⟩) (Nat.le_refl _) (.int .i64 (lv xs k))
        clear hown p1 hpl
        go_wp2_with fail
        go_loopw [35] (fun i' wi => ∃ j : Nat, j ≤ xs.length ∧ i' = .int .i64 j ∧ OwnV wi w1.heap.size (.slice (some ⟨w1.heap.size, 0, none⟩) xs.length xs.length) xs.length (endRow xs k j) ∧ Below w1.heap.size w1 wi ∧ Box2 wi w.heap.size (.int .i64 (xs.length : Int)) (.slice a xs.length cap)) (fun i _ => xs.length - (intOf i).toNat)
        case atStart => exact ⟨0, Nat.zero_le _, rfl, P1.out, b3, A3⟩
        case round =>
          obtain ⟨j, hj, rfl, hown, hb, hA⟩ := hrel
          have ⟨zB, cB, dB⟩ := hA
          by_cases hjl : j < xs.length
          · obtain ⟨b2, off2, e2, hbl2, hcj⟩ := (hrl.below hb).cell j (by rw [levs_len]; exact hjl)
            simp only [Option.some.injEq, Addr.mk.injEq, and_true] at e2
            obtain ⟨rfl, rfl⟩ := e2
            rw [levs_nth xs hjl] at hcj
            obtain ⟨b3, off3, rfl, hbl3, hc3⟩ := (hx.below (bw1.trans (hb.mono bw1.size))).cell k hlt
            have s0 := hp.pos k hlt
            have s2 : nth xs k ≤ 9223372036854775807 := by have := hp.small k hlt; omega
            have j0 : (0 : Int) ≤ (j : Int) := by omega
            have j1 : (j : Int) < (xs.length : Int) := by omega
            cases hhas : hasB (nth xs k) j
            · have hel := endRow_len xs (k := k) j hk
              have ⟨c2, f2⟩ := hown.at' (i := k * 2 + 1) (by omega)
              rw [endRow_nth xs j hlt] at c2
              have ⟨r0, r1⟩ := rtTo_bd (st := 0) (xs := xs) (i := k) (k := j) (by omega) (by omega)
              have ⟨l0, l1⟩ := lv_bd xs j
              have p2 := hown.put (k * 2 + 1) (rtTo 0 xs k (j + 1))
              rw [endRow_set] at p2
              have P2 := Lib.hid p2.1
              have A4 := hA.kept p2.2 (by simp; omega)
              have b4 := hb.setCell (p := ⟨w1.heap.size, k * 2 + 1, none⟩) (Nat.le_refl _) (.int .i64 (rtTo 0 xs k (j + 1)))
              have hmx : max (rtTo 0 xs k j) (lv xs j) = rtTo 0 xs k (j + 1) := by rw [rtTo_no hhas, maxI]; split <;> omega
              have HM := Lib.hid hmx
              clear p2 hel hown hmx
              go_wp2_with (go_at_call 60; refine (hasElement_any _ _ _ (by assumption) (by assumption) (by assumption)).mono ?_; rintro e w' ⟨rfl, rfl⟩)
              go_roundw
              case rel => rw [HM.out]; exact ⟨j + 1, by omega, by go_num, P2.out, b4, A4⟩
              case measure => simp [intOf]; omega
            · have HE := Lib.hid (endRow_yes hhas)
              go_wp2_with (go_at_call 60; refine (hasElement_any _ _ _ (by assumption) (by assumption) (by assumption)).mono ?_; rintro e w' ⟨rfl, rfl⟩)
              go_roundw
              case rel => exact ⟨j + 1, by omega, by go_num, by rw [HE.out]; exact hown, hb, hA⟩
              case measure => simp [intOf]; omega
          · obtain rfl : j = xs.length := by omega
            rw [endRow_end xs hlt] at hown
            go_wp2_with fail
            go_roundw
            case rel => exact ⟨k + 1, by omega, by go_num, hown, hb, hA⟩
            case measure => simp [intOf]; omega
      · obtain rfl : k = xs.length := by omega
        rw [rowP_end] at hown
        go_wp2_with fail
        refine bodyPost_ret (v := .tuple #[.slice (some ⟨w1.heap.size, 0, none⟩) xs.length xs.length, .bool true]) (by simp [results, Try.results43, go_sem]) rfl ?_
        exact ⟨some ⟨w1.heap.size, 0, none⟩, xs.length, by rw [H1.out], by rw [H1.out, H2.out]; exact hown.mono bw1.size, bw1.trans (hb.mono bw1.size)⟩

def wrongB (x y : Int) : Bool := decide (x < -1000) || decide (y < x) || decide (1000 < y)
theorem wrongB_no {x y : Int} : wrongB x y = false ↔ -1000 ≤ x ∧ x ≤ y ∧ y ≤ 1000 := by
  simp [wrongB]; omega
/-- are these pairs intervals? -/
def goodV (cs : List Int) (n : Nat) : Bool := decide (n ≤ 10) && (List.range n).all (fun k => !wrongB (lft cs k) (rgt cs k))
theorem goodV_iff {cs : List Int} {n : Nat} : goodV cs n = true ↔ n ≤ 10 ∧ ∀ k, k < n → wrongB (lft cs k) (rgt cs k) = false := by
  simp [goodV]
theorem goodV_no {cs : List Int} {n k : Nat} (hk : k < n) (h : wrongB (lft cs k) (rgt cs k) = true) : goodV cs n = false := by
  rw [← Bool.not_eq_true, goodV_iff]
  rintro ⟨_, h2⟩
  rw [h2 k hk] at h
  cases h
theorem goodV_big {cs : List Int} {n : Nat} (h : 10 < n) : goodV cs n = false := by
  rw [← Bool.not_eq_true, goodV_iff]
  rintro ⟨h1, _⟩
  omega

/-- the set of the pairs below j that begin behind x -/
def befTo (cs : List Int) (x : Int) : Nat → Nat
  | 0 => 0
  | j+1 => if x < lft cs j then befTo cs x j ||| 2 ^ j else befTo cs x j
theorem befTo_lt (cs : List Int) (x : Int) : ∀ k, befTo cs x k < 2 ^ k
  | 0 => by simp [befTo]
  | k+1 => by
    have h := befTo_lt cs x k
    have h2 : 2 ^ k < 2 ^ (k+1) := two_lt (by omega)
    simp only [befTo]
    split
    · exact or_lt (by omega) h2
    · omega
theorem befTo_small (cs : List Int) (x : Int) {k : Nat} (h : k ≤ 10) : befTo cs x k < 1024 := by
  have h1 := befTo_lt cs x k
  have h2 : 2 ^ k ≤ 2 ^ 10 := Nat.pow_le_pow_right (by omega) h
  omega
theorem befTo_bit (cs : List Int) (x : Int) (j : Nat) : ∀ k, (befTo cs x k).testBit j = (decide (j < k) && decide (x < lft cs j))
  | 0 => by simp [befTo]
  | k+1 => by
    have h := befTo_bit cs x j k
    simp only [befTo]
    by_cases hjk : j = k
    · subst hjk
      by_cases hb : x < lft cs j
      · simp [Nat.testBit_or, testBit_two, hb]
      · simp [h, hb]
    · have e : decide (j < k + 1) = decide (j < k) := by
        rw [decide_eq_decide]; omega
      rw [e, ← h]
      have hkj : ¬ k = j := fun e => hjk e.symm
      by_cases hb : x < lft cs k <;> simp [Nat.testBit_or, testBit_two, hkj, hb]
def ivE (cs : List Int) (n k : Nat) : Int := ((befTo cs (rgt cs k) n : Nat) : Int)
def ivo (cs : List Int) (n k : Nat) : List Int := fmap (ivE cs n) k
theorem ivo_len (cs : List Int) (n k : Nat) : (ivo cs n k).length = k := fmap_len _ _
def ooN (cs : List Int) (n : Nat) : Int := if goodV cs n then (n : Int) else 0
def ooL (cs : List Int) (n : Nat) : List Int := if goodV cs n then ivo cs n n else []
theorem ooL_len (cs : List Int) (n : Nat) : (ooL cs n).length ≤ 1048576 := by
  unfold ooL
  split
  · rename_i h; have := (goodV_iff.1 h).1; rw [ivo_len]; omega
  · simp

theorem isBefore_any (x y x' y' : Int) (w : World) :
    Calls Try.prog 113 #[.agg #[.int .i64 x, .int .i64 y], .agg #[.int .i64 x', .int .i64 y']] w fun e w' => e = .returned (.bool (decide (y < x'))) ∧ Below w.heap.size w w' := by
  by_cases h : y < x'
  all_goals
    go_enter Try.func113, Try.ntmps113
    go_wp2
    go_ret
    exact ⟨ret_bool (by simp [h]), (by repeat (first | exact Below.refl _ _ | assumption | refine Below.alloc ?_ (by first | exact Nat.le_refl _ | (simp only [World.size_alloc, World.size_setCell, World.size_drew]; omega) | omega) _ | refine Below.setCell ?_ (by first | exact Nat.le_refl _ | (simp only [World.size_alloc, World.size_setCell, World.size_drew]; omega) | omega) _ | refine Below.drew ?_))⟩

theorem meets_any (x y x' y' : Int) (w : World) :
    Calls Try.prog 89 #[.agg #[.int .i64 x, .int .i64 y], .agg #[.int .i64 x', .int .i64 y']] w fun e w' => e = .returned (.bool (decide (x' ≤ y ∧ x ≤ y'))) ∧ Below w.heap.size w w' := by
  cases h1 : decide (y < x')
  · cases h2 : decide (y' < x)
    all_goals
      have HF : Hid (decide (x' ≤ y ∧ x ≤ y') = !decide (y' < x)) := by
        rw [Hid, Bool.eq_iff_iff]
        simp at h1 ⊢
        omega
      have H1 := Lib.hid h1
      have H2 := Lib.hid h2
      clear h1 h2
      go_enter Try.func89, Try.ntmps89
      go_wp2_with fail
      refine (isBefore_any _ _ _ _ _).mono ?_
      rw [H1.out]
      rintro e w1 ⟨rfl, hb1⟩
      have A1 : Box2 w1 w.heap.size (.int .i64 x) (.int .i64 y) := ((Box2.new w _ _ 54).below ((Below.refl _ _).alloc (Nat.le_refl _) _)).below hb1
      have B1 : Box2 w1 (w.heap.size + 1) (.int .i64 x') (.int .i64 y') := by
        have := (Box2.new (w.alloc (.cells #[.int .i64 x, .int .i64 y] 54)) (.int .i64 x') (.int .i64 y') 54).below hb1
        simpa using this
      have ⟨zA, cA, dA⟩ := A1
      have ⟨zB, cB, dB⟩ := B1
      have bw1 : Below w.heap.size w w1 := Below.trans (by repeat (first | exact Below.refl _ _ | assumption | refine Below.alloc ?_ (by first | exact Nat.le_refl _ | (simp only [World.size_alloc, World.size_setCell, World.size_drew]; omega) | omega) _ | refine Below.setCell ?_ (by first | exact Nat.le_refl _ | (simp only [World.size_alloc, World.size_setCell, World.size_drew]; omega) | omega) _ | refine Below.drew ?_)) (hb1.mono (by first | (simp only [World.size_alloc, World.size_setCell, World.size_drew]; omega) | omega))
      clear hb1
      go_wp2_with fail
      refine (isBefore_any _ _ _ _ _).mono ?_
      rw [H2.out]
      rintro e w2 ⟨rfl, hb2⟩
      go_wp2_with fail
      go_ret
      exact ⟨ret_bool (by rw [HF.out, H2.out]; rfl), bw1.trans (hb2.mono bw1.size)⟩
  · have HF : Hid (decide (x' ≤ y ∧ x ≤ y') = false) := by
      rw [Hid, decide_eq_false_iff_not]
      simp at h1
      omega
    have H1 := Lib.hid h1
    clear h1
    go_enter Try.func89, Try.ntmps89
    go_wp2_with fail
    refine (isBefore_any _ _ _ _ _).mono ?_
    rw [H1.out]
    rintro e w1 ⟨rfl, hb1⟩
    have bw1 : Below w.heap.size w w1 := Below.trans (by repeat (first | exact Below.refl _ _ | assumption | refine Below.alloc ?_ (by first | exact Nat.le_refl _ | (simp only [World.size_alloc, World.size_setCell, World.size_drew]; omega) | omega) _ | refine Below.setCell ?_ (by first | exact Nat.le_refl _ | (simp only [World.size_alloc, World.size_setCell, World.size_drew]; omega) | omega) _ | refine Below.drew ?_)) (hb1.mono (by first | (simp only [World.size_alloc, World.size_setCell, World.size_drew]; omega) | omega))
    go_wp2_with fail
    go_ret
    exact ⟨ret_bool HF.out.symm, bw1⟩

/-- the set of the pairs below j that have t in them -/
def alTo (cs : List Int) (t : Int) : Nat → Nat
  | 0 => 0
  | j+1 => if lft cs j ≤ t ∧ t ≤ rgt cs j then alTo cs t j ||| 2 ^ j else alTo cs t j
theorem alTo_lt (cs : List Int) (t : Int) : ∀ k, alTo cs t k < 2 ^ k
  | 0 => by simp [alTo]
  | k+1 => by
    have h := alTo_lt cs t k
    have h2 : 2 ^ k < 2 ^ (k+1) := two_lt (by omega)
    simp only [alTo]
    split
    · exact or_lt (by omega) h2
    · omega
theorem alTo_small (cs : List Int) (t : Int) {k : Nat} (h : k ≤ 10) : alTo cs t k < 1024 := by
  have h1 := alTo_lt cs t k
  have h2 : 2 ^ k ≤ 2 ^ 10 := Nat.pow_le_pow_right (by omega) h
  omega
def alE (xs : List Int) (t : Nat) : Int := ((alTo (endp xs xs.length) (t : Int) xs.length : Nat) : Int)
def als (xs : List Int) (k : Nat) : List Int := fmap (alE xs) k
theorem als_len (xs : List Int) (k : Nat) : (als xs k).length = k := fmap_len _ _
def alL (n : Int) (xs : List Int) : List Int := if isIv n xs then als xs (sets xs).length else []
theorem alL_len (n : Int) (xs : List Int) : (alL n xs).length ≤ 1048576 := by
  unfold alL
  split
  · rename_i h
    have hp := ord_rel (isIv_ord h)
    have := sets_len xs
    rw [als_len]
    have := hp.len; have := hp.n1; omega
  · simp
theorem endp_len (xs : List Int) (k : Nat) : (endp xs k).length = k * 2 := prs_len _ _ _

theorem cmpMeets_any (a : Option Addr) (cs : List Int) (n cap : Nat) (t : Int) (w : World) (hx : Rd w a cs) (hl : cs.length = n * 2) (hn : n ≤ 10) :
    Calls Try.prog 88 #[.slice a n cap, .agg #[.int .i64 t, .int .i64 t], .func (.func 89) #[] #[]] w fun e w' => e = .returned (.int .i64 (alTo cs t n)) ∧ Below w.heap.size w w' := by
  have HL := Lib.hid hl
  clear hl
  go_enter Try.func88, Try.ntmps88
  go_wp2_with fail
  go_loopw [7, 12] (fun s i wr => ∃ k : Nat, k ≤ n ∧ i = .int .i64 k ∧ s = .int .i64 (alTo cs t k) ∧ Below w.heap.size w wr ∧ Box2 wr w.heap.size (.int .i64 t) (.int .i64 t)) (fun _ i _ => n - (intOf i).toNat)
  case atStart => exact ⟨0, Nat.zero_le _, rfl, rfl, (by repeat (first | exact Below.refl _ _ | assumption | refine Below.alloc ?_ (by first | exact Nat.le_refl _ | (simp only [World.size_alloc, World.size_setCell, World.size_drew]; omega) | omega) _ | refine Below.setCell ?_ (by first | exact Nat.le_refl _ | (simp only [World.size_alloc, World.size_setCell, World.size_drew]; omega) | omega) _ | refine Below.drew ?_)), Box2.new w _ _ _⟩
  case round =>
    obtain ⟨k, hk, rfl, rfl, hb, hB⟩ := hrel
    have ⟨zB, cB, dB⟩ := hB
    have hzr := hb.size
    by_cases hlt : k < n
    · obtain ⟨b, off, rfl, hbl, hc1, hc2⟩ := (hx.below hb).pair HL.out hlt
      have hbs := alTo_small cs t (k := k) (by omega)
      have hor := Lib.hid (or_bit (b := alTo cs t k) (k := k) (by omega) (by omega))
      clear hbs
      cases hd : decide (lft cs k ≤ t ∧ t ≤ rgt cs k)
      · have HS : Hid (alTo cs t (k+1) = alTo cs t k) := by rw [Hid, alTo, if_neg (of_decide_eq_false hd)]
        have HD := Lib.hid hd
        clear hd
        go_wp2_with fail
        refine (meets_any _ _ _ _ _).mono ?_
        rw [HD.out]
        rintro e w2 ⟨rfl, hb2⟩
        have ht2 : Below wr.heap.size wr w2 := Below.trans (by repeat (first | exact Below.refl _ _ | assumption | refine Below.alloc ?_ (by first | exact Nat.le_refl _ | (simp only [World.size_alloc, World.size_setCell, World.size_drew]; omega) | omega) _ | refine Below.setCell ?_ (by first | exact Nat.le_refl _ | (simp only [World.size_alloc, World.size_setCell, World.size_drew]; omega) | omega) _ | refine Below.drew ?_)) (hb2.mono (by first | (simp only [World.size_alloc, World.size_setCell, World.size_drew]; omega) | omega))
        have bw2 := hb.trans (ht2.mono hb.size)
        have B2 := hB.below ht2
        clear hb2 cB dB hc1 hc2
        go_wp2_with fail
        go_roundw
        case rel => exact ⟨k + 1, by omega, by go_num, val_int (by rw [HS.out]), bw2, B2⟩
        case measure => simp [intOf]; omega
      · have HS : Hid (alTo cs t (k+1) = alTo cs t k ||| 2 ^ k) := by rw [Hid, alTo, if_pos (of_decide_eq_true hd)]
        have HD := Lib.hid hd
        clear hd
        go_wp2_with fail
        refine (meets_any _ _ _ _ _).mono ?_
        rw [HD.out]
        rintro e w2 ⟨rfl, hb2⟩
        have ht2 : Below wr.heap.size wr w2 := Below.trans (by repeat (first | exact Below.refl _ _ | assumption | refine Below.alloc ?_ (by first | exact Nat.le_refl _ | (simp only [World.size_alloc, World.size_setCell, World.size_drew]; omega) | omega) _ | refine Below.setCell ?_ (by first | exact Nat.le_refl _ | (simp only [World.size_alloc, World.size_setCell, World.size_drew]; omega) | omega) _ | refine Below.drew ?_)) (hb2.mono (by first | (simp only [World.size_alloc, World.size_setCell, World.size_drew]; omega) | omega))
        have bw2 := hb.trans (ht2.mono hb.size)
        have B2 := hB.below ht2
        clear hb2 cB dB hc1 hc2
        go_wp2_with fail
        go_roundw
        case rel => exact ⟨k + 1, by omega, by go_num, val_int (by rw [hor.out, HS.out]), bw2, B2⟩
        case measure => simp [intOf]; omega
    · obtain rfl : k = n := by omega
      go_wp2_with fail
      go_ret
      exact ⟨rfl, hb⟩

theorem iAlong_any (n : Int) (a : Option Addr) (xs : List Int) (cap : Nat) (w : World) (hn : -9223372036854775808 ≤ n ∧ n ≤ 9223372036854775807) (hx : Rd w a xs) :
    Calls Try.prog 45 #[.agg #[.int .i64 n, .slice a xs.length cap]] w fun e w' => ∃ a' cap', e = .returned (.tuple #[.slice a' (alL n xs).length cap', .bool (isIv n xs)]) ∧ OwnI w' w.heap.size (.slice a' (alL n xs).length cap') (alL n xs) ∧ Below w.heap.size w w' := by
  have hx1 := hx.alloc (.cells #[.int .i64 n, .slice a xs.length cap] 26)
  obtain ⟨i0, hi, hz0, hz1, hz2⟩ := info_parts infoInt
  cases hr : isIv n xs
  · have H1 : Hid (endN n xs = 0) := by simp [Hid, endN, hr]
    have H2 : Hid (endL n xs = []) := by simp [Hid, endL, hr]
    have H3 : Hid (alL n xs = []) := by simp [Hid, alL, hr]
    have HR := Lib.hid hr
    clear hr
    go_enter Try.func45, Try.ntmps45
    go_wp2_with fail
    refine (iEnds_any _ _ _ _ _ hn hx1).mono ?_
    rw [HR.out, H1.out, H2.out]
    rintro e w1 ⟨a1, cap1, rfl, ho1, hb1⟩
    have bw1 : Below w.heap.size w w1 := Below.trans (by repeat (first | exact Below.refl _ _ | assumption | refine Below.alloc ?_ (by first | exact Nat.le_refl _ | (simp only [World.size_alloc, World.size_setCell, World.size_drew]; omega) | omega) _ | refine Below.setCell ?_ (by first | exact Nat.le_refl _ | (simp only [World.size_alloc, World.size_setCell, World.size_drew]; omega) | omega) _ | refine Below.drew ?_)) (hb1.mono (by first | (simp only [World.size_alloc, World.size_setCell, World.size_drew]; omega) | omega))
    clear ho1
    go_wp2_with fail
    refine bodyPost_ret (v := .tuple #[.slice none 0 0, .bool false]) (by simp [results, Try.results45, go_sem]) rfl ?_
    exact ⟨none, 0, by rw [H3.out]; rfl, by rw [H3.out]; exact OwnI.nil _ _, bw1⟩
  · have ho := isIv_ord hr
    have hp := ord_rel ho
    have H1 : Hid (endN n xs = xs.length) := by simp [Hid, endN, hr]
    have H2 : Hid (endL n xs = endp xs xs.length) := by simp [Hid, endL, hr]
    have H3 : Hid (alL n xs = als xs (sets xs).length) := by simp [Hid, alL, hr]
    have H4 : Hid (magF n xs = ((sets xs).length : Int)) := by simp [Hid, magF, hr]
    have HR := Lib.hid hr
    have hl10 : xs.length ≤ 10 := by have := hp.len; have := hp.n1; omega
    have hsl := sets_len xs
    obtain ⟨M, hM⟩ : ∃ M, M = (sets xs).length := ⟨_, rfl⟩
    rw [← hM] at H3 H4 hsl
    have HM := Lib.hid hM
    clear hr ho hM
    go_enter Try.func45, Try.ntmps45
    go_wp2_with fail
    refine (iEnds_any _ _ _ _ _ hn hx1).mono ?_
    rw [HR.out, H1.out, H2.out]
    rintro e w1 ⟨a1, cap1, rfl, ho1, hb1⟩
    have A1 : Box2 w1 w.heap.size (.int .i64 n) (.slice a xs.length cap) := (Box2.new w _ _ _).below hb1
    have bw1 : Below w.heap.size w w1 := Below.trans (by repeat (first | exact Below.refl _ _ | assumption | refine Below.alloc ?_ (by first | exact Nat.le_refl _ | (simp only [World.size_alloc, World.size_setCell, World.size_drew]; omega) | omega) _ | refine Below.setCell ?_ (by first | exact Nat.le_refl _ | (simp only [World.size_alloc, World.size_setCell, World.size_drew]; omega) | omega) _ | refine Below.drew ?_)) (hb1.mono (by first | (simp only [World.size_alloc, World.size_setCell, World.size_drew]; omega) | omega))
    have ⟨zA, cA, dA⟩ := A1
    have hre : Rd w1 a1 (endp xs xs.length) := ho1.rd (by omega)
    clear hb1 ho1
    go_wp2_with fail
    refine (iMagnitude_any _ _ _ _ _ hn (hx.below bw1)).mono ?_
    rw [HR.out, H4.out]
    rintro e w2 ⟨rfl, hb2⟩
    have bw2 := bw1.trans (hb2.mono bw1.size)
    have hre2 := hre.below hb2
    clear hb2 cA dA
    go_wp2_with (at_make; refine wpList_make_full _ rfl (.tmp 22) (.tmp 22) 24 rfl w2.heap.size 3 i0 (.int .i64 0) 1 Try.underlying24 hi hz0 hz1 .i64 .i64 _ _ M rfl rfl rfl rfl (by rw [hz2]; omega) (by unfold maxLen; omega) (Nat.le_refl _) ?_; intro w3 hown hgrow)
    have hb3 : Below w2.heap.size w2 w3 := (Below.refl _ _).grown hgrow (Nat.le_refl _) (fun k h => by cases h)
    have hown0 := made_row (alE xs) hown
    clear hown hgrow
    go_wp2_with fail
    go_loopw [26] (fun i wr => ∃ k : Nat, k ≤ M ∧ i = .int .i64 k ∧ OwnI wr w2.heap.size (.slice (some ⟨w2.heap.size, 0, none⟩) M M) (rowF (alE xs) M k) ∧ Below w2.heap.size w2 wr) (fun i _ => M - (intOf i).toNat)
    case atStart => exact ⟨0, Nat.zero_le _, rfl, hown0, hb3⟩
    case round =>
      obtain ⟨k, hk, rfl, hown, hb⟩ := hrel
      by_cases hlt : k < M
      · have k0 : (0 : Int) ≤ (k : Int) := by omega
        have k1 : (k : Int) < (M : Int) := by omega
        go_wp2_with fail
        refine (cmpMeets_any _ _ _ _ _ _ (hre2.below hb) (endp_len _ _) hl10).mono ?_
        rintro e w4 ⟨rfl, hb4⟩
        have o4 := hown.below hb4 (Nat.le_refl _)
        have bw4 := hb.trans (hb4.mono hb.size)
        have hrl := rowF_len (alE xs) hk
        have ⟨ci, fi⟩ := o4.at' hrl.symm (i := k) (by omega)
        have hput := o4.put hrl.symm k (alE xs k)
        rw [rowF_set _ hlt] at hput
        have HP := Lib.hid hput.1
        have bw5 := bw4.setCell (p := ⟨w2.heap.size, k, none⟩) (Nat.le_refl _) (.int .i64 (alE xs k))
        have HE : Hid (((alTo (endp xs xs.length) (k : Int) xs.length : Nat) : Int) = alE xs k) := rfl
        rw [HE.out]
        clear hput hrl hown o4 hb4
        go_wp2_with fail
        go_roundw
        case rel => exact ⟨k + 1, by omega, by go_num, HP.out, bw5⟩
        case measure => simp [intOf]; omega
      · obtain rfl : k = M := by omega
        rw [rowF_end] at hown
        have hown2 : OwnI wr w2.heap.size (.slice (some ⟨w2.heap.size, 0, none⟩) k k) (als xs k) := hown
        clear hown
        go_wp2_with fail
        refine bodyPost_ret (v := .tuple #[.slice (some ⟨w2.heap.size, 0, none⟩) k k, .bool true]) (by simp [results, Try.results45, go_sem]) rfl ?_
        exact ⟨some ⟨w2.heap.size, 0, none⟩, k, by rw [H3.out, als_len], by rw [H3.out, als_len]; exact hown2.mono bw2.size, bw2.trans (hb.mono bw2.size)⟩

def fpOk (n : Int) (xs : List Int) (m : Int) (ys : List Int) : Bool := relB n xs && relB m ys && decide (m ≤ 6)
def fpO (n : Int) (xs : List Int) (m : Int) (ys : List Int) : Option (List Int) := if fpOk n xs m ys then fpS xs ys ys.length [] else none
def fpV (n : Int) (xs : List Int) (m : Int) (ys : List Int) : List Int := (fpO n xs m ys).getD []
def fpB (n : Int) (xs : List Int) (m : Int) (ys : List Int) : Bool := (fpO n xs m ys).isSome
theorem fpV_len (n : Int) (xs : List Int) (m : Int) (ys : List Int) : (fpV n xs m ys).length ≤ 1048576 := by
  unfold fpV
  cases h : fpO n xs m ys with
  | none => simp
  | some zs =>
    rw [fpO] at h
    split at h
    · rename_i hok
      simp only [fpOk, Bool.and_eq_true, decide_eq_true_eq] at hok
      have h1 := fpS_len h
      have h2 := (relB_p hok.1.2).len
      simp only [Option.getD_some]
      simp at h1
      omega
    · cases h
theorem fp_no {n : Int} {xs : List Int} {m : Int} {ys : List Int} (h : fpOk n xs m ys = false) : fpV n xs m ys = [] ∧ fpB n xs m ys = false := by
  simp [fpV, fpB, fpO, h]
theorem fp_yes {n : Int} {xs : List Int} {m : Int} {ys : List Int} (h : fpOk n xs m ys = true) : fpV n xs m ys = (fpS xs ys ys.length []).getD [] ∧ fpB n xs m ys = (fpS xs ys ys.length []).isSome := by
  simp [fpV, fpB, fpO, h]

theorem boxes2 {w w1 : World} {u v u2 v2 : Value} (hb1 : Below ((w.alloc (.cells #[u, v] 26)).alloc (.cells #[u2, v2] 26)).heap.size ((w.alloc (.cells #[u, v] 26)).alloc (.cells #[u2, v2] 26)) w1) :
    Box2 w1 w.heap.size u v ∧ Box2 w1 (w.heap.size + 1) u2 v2 ∧ Below w.heap.size w w1 := by
  refine ⟨((Box2.new w u v 26).below ((Below.refl _ _).alloc (Nat.le_refl _) _)).below hb1, ?_, Below.trans (by repeat (first | exact Below.refl _ _ | assumption | refine Below.alloc ?_ (by first | exact Nat.le_refl _ | (simp only [World.size_alloc, World.size_setCell, World.size_drew]; omega) | omega) _ | refine Below.setCell ?_ (by first | exact Nat.le_refl _ | (simp only [World.size_alloc, World.size_setCell, World.size_drew]; omega) | omega) _ | refine Below.drew ?_)) (hb1.mono (by first | (simp only [World.size_alloc, World.size_setCell, World.size_drew]; omega) | omega))⟩
  have h := (Box2.new (w.alloc (.cells #[u, v] 26)) u2 v2 26).below hb1
  simpa using h

set_option maxRecDepth 100000 in
set_option maxHeartbeats 2000000 in
theorem fits_any (n : Int) (a : Option Addr) (xs : List Int) (cap : Nat) (m : Int) (b : Option Addr) (ys : List Int) (cap2 : Nat) (c : Option Addr) (L : List Int) (cap3 : Nat) (w : World) (hx : Rd w a xs) (hp : RelP n xs) (hy : Rd w b ys) (hq : RelP m ys) (hz : Rd w c L) (hL0 : 0 < L.length) (hL1 : L.length ≤ ys.length) (hL : LtL xs.length L) :
    Calls Try.prog 115 #[.agg #[.int .i64 n, .slice a xs.length cap], .agg #[.int .i64 m, .slice b ys.length cap2], .slice c L.length cap3] w fun e w' => e = .returned (.bool (ptW xs ys L)) ∧ Below w.heap.size w w' := by
  have y10 : ys.length ≤ 10 := by have := hq.len; have := hq.n1; omega
  obtain ⟨A1, B1, bw1⟩ := boxes2 (w := w) (u := .int .i64 n) (v := .slice a xs.length cap) (u2 := .int .i64 m) (v2 := .slice b ys.length cap2) (Below.refl _ _)
  obtain ⟨e, he⟩ : ∃ e, e = L.length - 1 := ⟨_, rfl⟩
  have hel : e < L.length := by omega
  have HE := Lib.hid he
  have hsub : (L.length : Int) - 1 = (e : Int) := by omega
  obtain ⟨q, hqe⟩ : ∃ q : Nat, nth L e = (q : Int) := ⟨(nth L e).toNat, by have := hL e hel; omega⟩
  have hqx : q < xs.length := by have := hL e hel; omega
  have HQ := Lib.hid hqe
  have HZ := Lib.hid hz
  clear he hqe hz
  go_enter Try.func115, Try.ntmps115
  go_wp2_with fail
  obtain ⟨w1, hw1⟩ : ∃ x : World, x = (w.alloc (.cells #[.int .i64 n, .slice a xs.length cap] 26)).alloc (.cells #[.int .i64 m, .slice b ys.length cap2] 26) := ⟨_, rfl⟩
  rw [← hw1] at A1 B1 bw1 ⊢
  clear hw1
  go_loopw [15] (fun i wr => ∃ k : Nat, k ≤ L.length ∧ i = .int .i64 k ∧ Below w.heap.size w wr ∧ Box2 wr w.heap.size (.int .i64 n) (.slice a xs.length cap) ∧ Box2 wr (w.heap.size + 1) (.int .i64 m) (.slice b ys.length cap2) ∧ (∀ j, j < k → ptG xs ys L j = true)) (fun i _ => L.length - (intOf i).toNat)
  case atStart => exact ⟨0, Nat.zero_le _, rfl, bw1, A1, B1, fun j hj => by omega⟩
  case round =>
    clear A1 B1 bw1
    obtain ⟨k, hk, rfl, hb, hA, hB, hall⟩ := hrel
    have HA := Lib.hid hall
    clear hall
    by_cases hlt : k < L.length
    · obtain ⟨b3, off3, rfl, hbl3, hck⟩ := (HZ.out.below hb).cell k hlt
      obtain ⟨b4, off4, e4, hbl4, hce⟩ := (HZ.out.below hb).cell e hel
      simp only [Option.some.injEq, Addr.mk.injEq, and_true] at e4
      obtain ⟨rfl, rfl⟩ := e4
      obtain ⟨p, hpe⟩ : ∃ p : Nat, nth L k = (p : Int) := ⟨(nth L k).toNat, by have := hL k hlt; omega⟩
      have hpx : p < xs.length := by have := hL k hlt; omega
      have HG : Hid (ptG xs ys L k = ((hasB (nth xs p) (q : Int) == hasB (nth ys k) (e : Int)) && (hasB (nth xs q) (p : Int) == hasB (nth ys e) (k : Int)))) := by
        rw [Hid, ptG, ← HE.out, HQ.out, hpe, Int.toNat_natCast, Int.toNat_natCast]
      rw [hpe] at hck
      rw [HQ.out] at hce
      have hky : k < ys.length := by omega
      have hey : e < ys.length := by omega
      obtain ⟨b1, off1, rfl, hbl1, hcp⟩ := (hx.below hb).cell p hpx
      obtain ⟨b5, off5, e5, hbl5, hcq⟩ := (hx.below hb).cell q hqx
      simp only [Option.some.injEq, Addr.mk.injEq, and_true] at e5
      obtain ⟨rfl, rfl⟩ := e5
      obtain ⟨b2, off2, rfl, hbl2, hyk⟩ := (hy.below hb).cell k hky
      obtain ⟨b6, off6, e6, hbl6, hye⟩ := (hy.below hb).cell e hey
      simp only [Option.some.injEq, Addr.mk.injEq, and_true] at e6
      obtain ⟨rfl, rfl⟩ := e6
      have ⟨r1, r2⟩ := rel_at hp hpx
      have ⟨r3, r4⟩ := rel_at hp hqx
      have ⟨r5, r6⟩ := rel_at hq hky
      have ⟨r7, r8⟩ := rel_at hq hey
      have n1 : (0 : Int) ≤ (p : Int) := by omega
      have n2 : (0 : Int) ≤ (q : Int) := by omega
      have n3 : (0 : Int) ≤ (k : Int) := by omega
      have n4 : (0 : Int) ≤ (e : Int) := by omega
      have ⟨zA, cA, dA⟩ := hA
      have ⟨zB, cB, dB⟩ := hB
      clear hpe
      have HAA := Lib.hid hA
      have HBB := Lib.hid hB
      clear hA hB
      cases hd1 : (hasB (nth xs p) (q : Int) == hasB (nth ys k) (e : Int))
      · have HN := Lib.hid (ptW_no hlt (show ptG xs ys L k = false by rw [HG.out, hd1]; rfl))
        go_wp2_with fail
        go_quiet ((go_at_call 60; exact hasElement_is (by assumption) (by assumption) (by assumption) rfl _ _))
        go_wp2_with fail
        go_ret
        exact ⟨ret_bool HN.out.symm, hb.trans ((Joins.below_draws _ _ _).mono hb.size)⟩
      · cases hd2 : (hasB (nth xs q) (p : Int) == hasB (nth ys e) (k : Int))
        · have HN := Lib.hid (ptW_no hlt (show ptG xs ys L k = false by rw [HG.out, hd1, hd2]; rfl))
          go_wp2_with fail
          go_quiet ((go_at_call 60; exact hasElement_is (by assumption) (by assumption) (by assumption) rfl _ _))
          go_wp2_with fail
          go_ret
          exact ⟨ret_bool HN.out.symm, hb.trans ((Joins.below_draws _ _ _).mono hb.size)⟩
        · have HY : Hid (ptG xs ys L k = true) := by rw [Hid, HG.out, hd1, hd2]; rfl
          go_wp2_with fail
          go_quiet ((go_at_call 60; exact hasElement_is (by assumption) (by assumption) (by assumption) rfl _ _))
          have hqq : Below wr.heap.size wr (wr.drewN nq) := Joins.below_draws _ _ _
          have hb := hb.trans (hqq.mono hb.size)
          have hA := HAA.out.below hqq
          have hB := HBB.out.below hqq
          obtain ⟨wq, hwq⟩ : ∃ x : World, x = wr.drewN nq := ⟨_, rfl⟩
          rw [← hwq] at hb hA hB ⊢
          clear hwq hqq
          go_wp2_with fail
          go_roundw
          case rel =>
            refine ⟨k + 1, by omega, by go_num, hb, hA, hB, fun j hj => ?_⟩
            by_cases e : j = k
            · rw [e]; exact HY.out
            · exact HA.out j (by omega)
          case measure => simp [intOf]; omega
    · have HY : Hid (ptW xs ys L = true) := ptW_iff.2 (fun j hj => HA.out j (by omega))
      go_wp2_with fail
      go_ret
      exact ⟨ret_bool HY.out.symm, hb⟩

theorem sliceIndex_any (a : Option Addr) (es : List Int) (cap : Nat) (i : Int) (w : World) (hx : Rd w a es) :
    Calls Try.prog 125 #[.slice a es.length cap, .int .i64 i] w fun e w' => ∃ r : Int, e = .returned (.int .i64 r) ∧ decide (0 ≤ r) = memB es i ∧ w = w' := by
  have hlen := hx.len
  go_enter Try.func125, Try.ntmps125
  go_wp2_with fail
  go_loop [8] (fun i' => ∃ k : Nat, k ≤ es.length ∧ i' = .int .i64 k ∧ ∀ j, j < k → nth es j ≠ i) (fun i' => es.length - (intOf i').toNat)
  case atStart => exact ⟨0, Nat.zero_le _, rfl, fun j hj => by omega⟩
  case round =>
    obtain ⟨k, hk, rfl, hall⟩ := hrel
    have HA := Lib.hid hall
    clear hall
    by_cases hlt : k < es.length
    · obtain ⟨b, off, rfl, hbl, hc⟩ := hx.cell k hlt
      have k0 : (0 : Int) ≤ (k : Int) := by omega
      have k1 : (k : Int) < (es.length : Int) := by omega
      cases he : (i == nth es k)
      · have HE : Hid (nth es k ≠ i) := by
          have : ¬ i = nth es k := by simpa using he
          exact fun e => this e.symm
        go_wp2_with fail
        go_round
        case rel =>
          refine ⟨k + 1, by omega, by go_num, fun j hj => ?_⟩
          by_cases e : j = k
          · rw [e]; exact HE.out
          · exact HA.out j (by omega)
        case measure => simp [intOf]; omega
      · have HM : Hid (memB es i = true) := memB_iff.2 ⟨k, hlt, (show i = nth es k by simpa using he).symm⟩
        go_wp2_with fail
        go_ret
        exact ⟨(k : Int), rfl, by rw [HM.out]; simp, rfl⟩
    · have HM : Hid (memB es i = false) := by
        rw [Hid, ← Bool.not_eq_true, memB_iff]
        rintro ⟨j, hj, e⟩
        exact HA.out j (by omega) e
      go_wp2_with fail
      go_ret
      exact ⟨-1, rfl, by rw [HM.out]; rfl, rfl⟩
theorem sliceHas_any (a : Option Addr) (es : List Int) (cap : Nat) (i : Int) (w : World) (hx : Rd w a es) :
    Calls Try.prog 114 #[.slice a es.length cap, .int .i64 i] w fun e w' => e = .returned (.bool (memB es i)) ∧ w = w' := by
  go_enter Try.func114, Try.ntmps114
  go_wp2_with fail
  refine (sliceIndex_any _ _ _ _ _ hx).mono ?_
  rintro e w' ⟨r, rfl, hr, rfl⟩
  have HR := Lib.hid hr
  clear hr
  go_wp2_with fail
  go_ret
  exact ⟨ret_bool HR.out, rfl⟩

/-- what stands behind the search -/
def CnPost (w0 : World) (B g cap n L : Nat) (l : List Int) (r : Option (List Int)) (e : Ending) (w' : World) : Prop :=
  Below B w0 w' ∧ ((∃ ys, r = some ys ∧ ys.length = L ∧ e = .returned (.tuple #[.slice (some ⟨g, 0, none⟩) L cap, .bool true]) ∧ OwnI w' B (.slice (some ⟨g, 0, none⟩) L cap) ys) ∨ (r = none ∧ e = .returned (.tuple #[.slice none 0 0, .bool false]) ∧ OwnI w' B (.slice (some ⟨g, 0, none⟩) n cap) l))

theorem OwnI.init {w : World} {B g n cap : Nat} {xs : List Int} {x : Int} (h : OwnI w B (.slice (some ⟨g, 0, none⟩) n cap) (xs ++ [x])) : OwnI w B (.slice (some ⟨g, 0, none⟩) xs.length cap) xs := by
  rcases h.2 with ⟨e, _⟩ | ⟨g', cap', cur, e, hb, hg, hn, hm, hs, ht⟩
  · cases e
  · simp only [Value.slice.injEq, Option.some.injEq, Addr.mk.injEq, and_true] at e
    obtain ⟨rfl, _, rfl⟩ := e
    rw [List.length_append, List.length_singleton] at hn ht
    refine ⟨by simp, .inr ⟨_, _, cur, rfl, hb, hg, by omega, hm, hs, ?_⟩⟩
    have h1 := congrArg (List.take xs.length) ht
    rw [List.take_take, show min xs.length ((xs.length + 1) * 1) = xs.length * 1 by omega, List.map_append] at h1
    rw [h1, List.take_append_of_le_length (by simp), List.take_of_length_le (by simp)]

set_option maxRecDepth 100000 in
set_option maxHeartbeats 4000000 in
theorem cp_any (w0 : World) (n : Int) (a : Option Addr) (xs : List Int) (cap : Nat) (m : Int) (b : Option Addr) (ys : List Int) (cap2 : Nat) (g cp : Nat) (hp : RelP n xs) (hq : RelP m ys) (hx : Rd w0 a xs) (hy : Rd w0 b ys) (hcap : ys.length ≤ cp) :
    ∀ (d : Nat) (l : List Int) (w : World), l.length + d = ys.length → LtL xs.length l → Below w0.heap.size w0 w → OwnI w w0.heap.size (.slice (some ⟨g, 0, none⟩) l.length cp) l →
    Calls Try.prog 90 #[.agg #[.int .i64 n, .slice a xs.length cap], .agg #[.int .i64 m, .slice b ys.length cap2], .slice (some ⟨g, 0, none⟩) l.length cp] w fun e w' => CnPost w0 w0.heap.size g cp l.length ys.length l (fpS xs ys d l) e w' ∧ w.grownBy w' (some g) := by
  have x10 : xs.length ≤ 10 := by have := hp.len; have := hp.n1; omega
  have y10 : ys.length ≤ 10 := by have := hq.len; have := hq.n1; omega
  obtain rfl : n = (xs.length : Int) := hp.len.symm
  obtain rfl : m = (ys.length : Int) := hq.len.symm
  intro d
  induction d with
  | zero =>
    intro l w hl hlt hb ho
    have hz : ((l.length : Int) == (ys.length : Int)) = true := by simp; omega
    have hb0 : Below w.heap.size w ((w.alloc (.cells #[.int .i64 (xs.length : Int), .slice a xs.length cap] 26)).alloc (.cells #[.int .i64 (ys.length : Int), .slice b ys.length cap2] 26)) := (by repeat (first | exact Below.refl _ _ | assumption | refine Below.alloc ?_ (by first | exact Nat.le_refl _ | (simp only [World.size_alloc, World.size_setCell, World.size_drew]; omega) | omega) _ | refine Below.setCell ?_ (by first | exact Nat.le_refl _ | (simp only [World.size_alloc, World.size_setCell, World.size_drew]; omega) | omega) _ | refine Below.drew ?_))
    have HG0 := Lib.hid (below_grown hb0 (Nat.le_refl _) (some g))
    have HP : Hid (CnPost w0 w0.heap.size g cp l.length ys.length l (fpS xs ys 0 l) (.returned (.tuple #[.slice (some ⟨g, 0, none⟩) l.length cp, .bool true])) ((w.alloc (.cells #[.int .i64 (xs.length : Int), .slice a xs.length cap] 26)).alloc (.cells #[.int .i64 (ys.length : Int), .slice b ys.length cap2] 26))) := by
      have e : l.length = ys.length := by omega
      refine ⟨hb.trans (hb0.mono hb.size), .inl ⟨l, rfl, e, by rw [e], ?_⟩⟩
      have ho' := ho.below hb0 (Nat.le_refl _)
      rw [e] at ho'
      exact ho'
    clear hb ho hl hlt hb0
    go_enter Try.func90, Try.ntmps90
    go_wp2_with fail
    exact bodyPost_ret (v := .tuple #[.slice (some ⟨g, 0, none⟩) l.length cp, .bool true]) (by simp [results, Try.results90, go_sem]) rfl ⟨HP.out, HG0.out⟩
  | succ d ih =>
    intro l w hl hlt hb ho
    obtain ⟨i0, hi, hz0, hz1, hz2⟩ := info_parts infoInt
    have hz : ((l.length : Int) == (ys.length : Int)) = false := by simp; omega
    have HIH := Lib.hid ih
    have HLT := Lib.hid hlt
    have HX := Lib.hid hx
    have HYY := Lib.hid hy
    have hll : l.length < ys.length := by omega
    have HLD : Hid (l.length + 1 + d = ys.length) := by show l.length + 1 + d = ys.length; omega
    obtain ⟨A1, B1, bw1⟩ := boxes2 (w := w) (u := .int .i64 (xs.length : Int)) (v := .slice a xs.length cap) (u2 := .int .i64 (ys.length : Int)) (v2 := .slice b ys.length cap2) (Below.refl _ _)
    have hgw := (ho.lt g rfl).2
    have hg0 := (ho.lt g rfl).1
    have HO := Lib.hid (ho.below bw1 (Nat.le_refl _))
    have HBW := Lib.hid (hb.trans (bw1.mono hb.size))
    have HGW := Lib.hid (below_grown bw1 (Nat.le_refl _) (some g))
    have hw0 := hb.size
    obtain ⟨G, hG⟩ : ∃ G : Nat → Option (List Int), G = fun i : Nat => if !memB l (i : Int) && ptW xs ys (l ++ [(i : Int)]) then fpS xs ys d (l ++ [(i : Int)]) else none := ⟨_, rfl⟩
    have HG : Hid (∀ i : Nat, G i = if !memB l (i : Int) && ptW xs ys (l ++ [(i : Int)]) then fpS xs ys d (l ++ [(i : Int)]) else none) := fun i => by rw [hG]
    have HR : Hid (fpS xs ys (d+1) l = find1 G xs.length) := by rw [Hid, fpS, hG]
    clear ih hlt hb ho hl hG hx hy
    go_enter Try.func90, Try.ntmps90
    go_wp2_with fail
    obtain ⟨w1, hw1⟩ : ∃ x : World, x = (w.alloc (.cells #[.int .i64 (xs.length : Int), .slice a xs.length cap] 26)).alloc (.cells #[.int .i64 (ys.length : Int), .slice b ys.length cap2] 26) := ⟨_, rfl⟩
    rw [← hw1] at A1 B1 bw1 HO HBW HGW ⊢
    clear hw1
    go_loopw [20] (fun i wq => ∃ k : Nat, k ≤ xs.length ∧ i = .int .i64 k ∧ OwnI wq w0.heap.size (.slice (some ⟨g, 0, none⟩) l.length cp) l ∧ Below w0.heap.size w0 wq ∧ Box2 wq w.heap.size (.int .i64 (xs.length : Int)) (.slice a xs.length cap) ∧ Box2 wq (w.heap.size + 1) (.int .i64 (ys.length : Int)) (.slice b ys.length cap2) ∧ w.grownBy wq (some g) ∧ (∀ j, j < k → G j = none)) (fun i _ => xs.length - (intOf i).toNat)
    case atStart => exact ⟨0, Nat.zero_le _, rfl, HO.out, HBW.out, A1, B1, HGW.out, fun j hj => by omega⟩
    case round =>
      clear A1 B1 bw1
      obtain ⟨k, hk, rfl, hoq, hbq, hA, hB, hgq, hno⟩ := hrel
      have HGQ := Lib.hid hgq
      clear hgq
      have HNO := Lib.hid hno
      have HBQ := Lib.hid hbq
      have hbs := hbq.size
      have HA := Lib.hid hA
      have HB := Lib.hid hB
      have ⟨zA, cA, dA⟩ := hA
      have ⟨zB, cB, dB⟩ := hB
      clear hno hA hB
      by_cases hkM : k < xs.length
      · have h1 : (k : Int) < (xs.length : Int) := by omega
        have HL1 := Lib.hid (HLT.out.snoc hkM)
        have HLN : Hid ((l ++ [(k : Int)]).length = l.length + 1) := by simp [Hid]
        have HGK := Lib.hid (HG.out k)
        go_wp2_with (at_builtin; refine wpList_append_fits _ rfl _ _ 24 rfl w0.heap.size 3 i0 1 Try.underlying24 hi hz1 g l.length cp (l.map (Value.int .i64)) rfl (by have h := hoq.alloc (.cells #[.int .i64 (k : Int)] 3); unfold OwnI at h; exact h) ⟨wr.heap.size, 0, none⟩ 1 1 [.int .i64 (k : Int)] rfl rfl (cell_one_new _ _ _) (by intro u hu; simp at hu; subst hu; rfl) (by omega) ?_)
        intro w3 hown3 hgrow
        have hg2 := grown_alloc_set hgrow
        have b3 : Below w0.heap.size w0 w3 := HBQ.out.trans (grown_below hg2 _ hg0 hbs)
        have A3 := HA.out.kept hg2 (by simp only [ne_eq, Option.some.injEq]; omega)
        have B3 := HB.out.kept hg2 (by simp only [ne_eq, Option.some.injEq]; omega)
        have o3 : OwnI w3 w0.heap.size (.slice (some ⟨g, 0, none⟩) (l ++ [(k : Int)]).length cp) (l ++ [(k : Int)]) := by
          unfold OwnI
          rw [List.length_append, List.map_append]
          exact hown3
        have HB3 := Lib.hid b3
        have HO3 := Lib.hid o3
        have HRL := Lib.hid (o3.init.rd)
        have hb3 := b3.size
        have HA3 := Lib.hid A3
        have HB3' := Lib.hid B3
        have HG3 := Lib.hid (grown_trans HGQ.out hg2)
        have HF := Lib.hid (fits_any (xs.length : Int) a xs cap (ys.length : Int) b ys cap2 (some ⟨g, 0, none⟩) (l ++ [(k : Int)]) cp w3 (HX.out.below b3) hp (HYY.out.below b3) hq o3.rd (by simp) (by simp; omega) HL1.out)
        clear hown3 hgrow hg2 b3 o3 hoq hbq cA dA cB dB zA zB A3 B3
        have ⟨zA, cA, dA⟩ := HA3.out
        have ⟨zB, cB, dB⟩ := HB3'.out
        obtain ⟨P, hP⟩ : ∃ P, P = l ++ [(k : Int)] := ⟨_, rfl⟩
        rw [← hP] at HL1 HLN HGK HO3 HF
        have HPE := Lib.hid hP
        clear hP
        rw [HLN.out] at HF HO3
        cases hm : memB l (k : Int)
        · cases hf : ptW xs ys P
          · have HGN : Hid (G k = none) := by rw [Hid, HGK.out, hf, Bool.and_false]; rfl
            go_wp2_with fail
            refine (sliceHas_any _ _ _ _ _ HRL.out).mono ?_
            rw [hm]
            rintro e w4 ⟨rfl, rfl⟩
            go_wp2_with fail
            refine HF.out.mono ?_
            rw [hf]
            rintro e w4 ⟨rfl, hb4⟩
            have O4 := HO3.out.below hb4 (Nat.le_refl _)
            have B4 := HB3.out.trans (hb4.mono hb3)
            have A5 := HA3.out.below hb4
            have B5 := HB3'.out.below hb4
            have HG4 := Lib.hid (grown_trans HG3.out (below_grown hb4 (Nat.le_refl _) (some g)))
            rw [HPE.out] at O4
            have O6 := O4.init
            clear hb4 O4 cA dA cB dB
            go_wp2_with fail
            go_roundw
            case rel =>
              refine ⟨k + 1, by omega, by go_num, O6, B4, A5, B5, HG4.out, fun j hj => ?_⟩
              by_cases e : j = k
              · rw [e]; exact HGN.out
              · exact HNO.out j (by omega)
            case measure => simp [intOf]; omega
          · have HGN : Hid (G k = fpS xs ys d P) := by rw [Hid, HGK.out, hf, hm]; rfl
            go_wp2_with fail
            refine (sliceHas_any _ _ _ _ _ HRL.out).mono ?_
            rw [hm]
            rintro e w4 ⟨rfl, rfl⟩
            go_wp2_with fail
            refine HF.out.mono ?_
            rw [hf]
            rintro e w4 ⟨rfl, hb4⟩
            have O4 := HO3.out.below hb4 (Nat.le_refl _)
            have B4 := HB3.out.trans (hb4.mono hb3)
            have HA5 := Lib.hid (HA3.out.below hb4)
            have HB5 := Lib.hid (HB3'.out.below hb4)
            have HG4 := Lib.hid (grown_trans HG3.out (below_grown hb4 (Nat.le_refl _) (some g)))
            have ⟨zA5, cA5, dA5⟩ := HA5.out
            have ⟨zB5, cB5, dB5⟩ := HB5.out
            have HC2 := Lib.hid (HIH.out P w4 (by rw [HLN.out]; exact HLD.out) HL1.out B4 (by rw [HLN.out]; exact O4))
            rw [HLN.out, ← HGN.out] at HC2
            clear hb4 O4 B4 cA dA cB dB
            go_wp2_with fail
            refine HC2.out.mono ?_
            rintro e w5 ⟨⟨hb5, ⟨zs, hzs, hzl, rfl, ho5⟩ | ⟨hzs, rfl, ho5⟩⟩, hg5⟩
            · have HPO : Hid (CnPost w0 w0.heap.size g cp l.length ys.length l (fpS xs ys (d+1) l) (.returned (.tuple #[.slice (some ⟨g, 0, none⟩) ys.length cp, .bool true])) w5) := by
                refine ⟨hb5, .inl ⟨zs, ?_, hzl, rfl, ho5⟩⟩
                rw [HR.out]
                exact find1_some hkM hzs HNO.out
              have HG5 := Lib.hid (grown_trans HG4.out hg5)
              clear ho5 hb5 hg5
              go_wp2_with fail
              exact bodyPost_ret (v := .tuple #[.slice (some ⟨g, 0, none⟩) ys.length cp, .bool true]) (by simp [results, Try.results90, go_sem]) rfl ⟨HPO.out, HG5.out⟩
            · rw [HPE.out] at ho5
              have O6 := ho5.init
              have HZ := Lib.hid hzs
              have HG5 := Lib.hid (grown_trans HG4.out hg5)
              have A7 := HA5.out.kept hg5 (by simp only [ne_eq, Option.some.injEq]; omega)
              have B7 := HB5.out.kept hg5 (by simp only [ne_eq, Option.some.injEq]; omega)
              clear ho5 hzs hg5
              go_wp2_with fail
              go_roundw
              case rel =>
                refine ⟨k + 1, by omega, by go_num, O6, hb5, A7, B7, HG5.out, fun j hj => ?_⟩
                by_cases e : j = k
                · rw [e]; exact HZ.out
                · exact HNO.out j (by omega)
              case measure => simp [intOf]; omega
        · have HGN : Hid (G k = none) := by rw [Hid, HGK.out, hm]; rfl
          go_wp2_with fail
          refine (sliceHas_any _ _ _ _ _ HRL.out).mono ?_
          rw [hm]
          rintro e w4 ⟨rfl, rfl⟩
          have O4 := HO3.out
          rw [HPE.out] at O4
          have O6 := O4.init
          clear O4
          go_wp2_with fail
          go_roundw
          case rel =>
            refine ⟨k + 1, by omega, by go_num, O6, HB3.out, HA3.out, HB3'.out, HG3.out, fun j hj => ?_⟩
            by_cases e : j = k
            · rw [e]; exact HGN.out
            · exact HNO.out j (by omega)
          case measure => simp [intOf]; omega
      · have HPO : Hid (CnPost w0 w0.heap.size g cp l.length ys.length l (fpS xs ys (d+1) l) (.returned (.tuple #[.slice none 0 0, .bool false])) wr) := by
          refine ⟨HBQ.out, .inr ⟨?_, rfl, hoq⟩⟩
          rw [HR.out]
          exact find1_none (fun j hj => HNO.out j (by omega))
        have h1 : ¬ (k : Int) < (xs.length : Int) := by omega
        clear hoq hbq
        go_wp2_with fail
        exact bodyPost_ret (v := .tuple #[.slice none 0 0, .bool false]) (by simp [results, Try.results90, go_sem]) rfl ⟨HPO.out, HGQ.out⟩

/-- what make([]int, n) lays -/
def madeZ (n : Nat) : Array Value := madeCells (Value.int .i64 0).cells (n * 1)
theorem make_ints (n : Nat) (h : n ≤ 1024) (W : World) : (Instr.makeSlice 24 (.int .i64 (n : Int)) (.int .i64 (n : Int))).run Try.prog W = .ok (.slice (some ⟨W.heap.size, 0, none⟩) n n) (W.alloc (.cells (madeZ n) 3)) := by
  obtain ⟨i0, hi, hz0, hz1, hz2⟩ := info_parts infoInt
  have hr := run_make (P := Try.prog) W 24 3 i0 (.int .i64 0) Try.underlying24 hi hz0 .i64 .i64 n n (by omega) (Int.le_refl _) (by rw [hz2]; omega) (by omega)
  simp only [Int.toNat_natCast, hz1] at hr
  exact hr
theorem own_made (W : World) (B n : Nat) (h : n ≤ 1024) (hB : B ≤ W.heap.size) : OwnI (W.alloc (.cells (madeZ n) 3)) B (.slice (some ⟨W.heap.size, 0, none⟩) n n) (List.replicate n 0) := by
  have := World.ownsRow_lit W (e := 3) (size := 1) (madeZ n) n hB (by unfold maxLen; omega) (size_madeCells _ _)
  unfold OwnI
  rw [List.length_replicate, List.map_replicate]
  have e : (madeZ n).toList = List.replicate n (Value.int .i64 0) := by unfold madeZ; rw [Nat.mul_one]; exact toList_madeCells_one _ n
  rw [e] at this
  exact this

theorem make_room (n : Nat) (h : n ≤ 1024) (W : World) : (Instr.makeSlice 24 (.int .i64 0) (.int .i64 (n : Int))).run Try.prog W = .ok (.slice (some ⟨W.heap.size, 0, none⟩) 0 n) (W.alloc (.cells (madeZ n) 3)) := by
  obtain ⟨i0, hi, hz0, hz1, hz2⟩ := info_parts infoInt
  have hr := run_make (P := Try.prog) W 24 3 i0 (.int .i64 0) Try.underlying24 hi hz0 .i64 .i64 0 n (by omega) (by omega) (by rw [hz2]; omega) (by omega)
  simp only [Int.toNat_natCast, Int.toNat_zero, hz1] at hr
  exact hr
theorem own_room (W : World) (B n : Nat) (h : n ≤ 1024) (hB : B ≤ W.heap.size) : OwnI (W.alloc (.cells (madeZ n) 3)) B (.slice (some ⟨W.heap.size, 0, none⟩) 0 n) [] := by
  rcases (own_made W B n h hB).2 with ⟨e, _⟩ | ⟨g', cap', cur, e, hb, hg, hn, hm, hs, ht⟩
  · cases e
  · simp only [Value.slice.injEq, Option.some.injEq, Addr.mk.injEq, and_true] at e
    obtain ⟨rfl, _, rfl⟩ := e
    exact ⟨by simp, .inr ⟨_, _, cur, rfl, hb, hg, by first | exact Nat.zero_le _ | simp, hm, hs, by simp⟩⟩

set_option maxRecDepth 100000 in
set_option maxHeartbeats 1000000 in
theorem iFind_any (n : Int) (a : Option Addr) (xs : List Int) (cap : Nat) (m : Int) (b : Option Addr) (ys : List Int) (cap2 : Nat) (w : World) (hn : -9223372036854775808 ≤ n ∧ n ≤ 9223372036854775807) (hx : Rd w a xs) (hm : -9223372036854775808 ≤ m ∧ m ≤ 9223372036854775807) (hy : Rd w b ys) :
    Calls Try.prog 46 #[.agg #[.int .i64 n, .slice a xs.length cap], .agg #[.int .i64 m, .slice b ys.length cap2]] w fun e w' => ∃ a' cap', e = .returned (.tuple #[.slice a' (fpV n xs m ys).length cap', .bool (fpB n xs m ys)]) ∧ OwnI w' w.heap.size (.slice a' (fpV n xs m ys).length cap') (fpV n xs m ys) ∧ Below w.heap.size w w' := by
  have hx1 := (hx.alloc (.cells #[.int .i64 n, .slice a xs.length cap] 26)).alloc (.cells #[.int .i64 m, .slice b ys.length cap2] 26)
  have HN := Lib.hid hn
  have HM := Lib.hid hm
  clear hn hm
  go_enter Try.func46, Try.ntmps46
  go_wp2_with fail
  refine (iIsRelation_any _ _ _ _ _ HN.out hx1).mono ?_
  rintro e w1 ⟨rfl, hb1⟩
  obtain ⟨A1, B1, bw1⟩ := boxes2 hb1
  clear hb1 hx1
  cases hg : relB n xs
  · have HNO := Lib.hid (fp_no (n := n) (xs := xs) (m := m) (ys := ys) (by simp [fpOk, hg]))
    clear hg
    go_wp2_with fail
    refine bodyPost_ret (v := .tuple #[.slice none 0 0, .bool false]) (by simp [results, Try.results46, go_sem]) rfl ?_
    rw [HNO.out.1, HNO.out.2]
    exact ⟨none, 0, rfl, OwnI.nil _ _, bw1⟩
  · have hp := relB_p hg
    have HG := Lib.hid hg
    clear hg
    have ⟨zB, cB, dB⟩ := B1
    go_wp2_with fail
    refine (iIsRelation_any _ _ _ _ _ HM.out (hy.below bw1)).mono ?_
    rintro e w2 ⟨rfl, hb2⟩
    have bw2 : Below w.heap.size w w2 := bw1.trans (hb2.mono bw1.size)
    have A2 := A1.below hb2
    have B2 := B1.below hb2
    clear A1 B1 cB dB zB hb2 bw1
    have ⟨zA, cA, dA⟩ := A2
    have ⟨zB, cB, dB⟩ := B2
    cases hh : relB m ys
    · have HNO := Lib.hid (fp_no (n := n) (xs := xs) (m := m) (ys := ys) (by simp [fpOk, hh]))
      clear hh
      go_wp2_with fail
      refine bodyPost_ret (v := .tuple #[.slice none 0 0, .bool false]) (by simp [results, Try.results46, go_sem]) rfl ?_
      rw [HNO.out.1, HNO.out.2]
      exact ⟨none, 0, rfl, OwnI.nil _ _, bw2⟩
    · have hq := relB_p hh
      have HH := Lib.hid hh
      clear hh
      by_cases h6 : m ≤ 6
      · have HY := Lib.hid (fp_yes (n := n) (xs := xs) (m := m) (ys := ys) (by simp [fpOk, HG.out, HH.out, h6]))
        have bs2 := bw2.size
        have y10 : ys.length ≤ 10 := by have := hq.len; omega
        have hmk := make_room ys.length (by omega)
        obtain rfl : m = (ys.length : Int) := hq.len.symm
        have hW : Below w2.heap.size w2 (w2.alloc (.cells (madeZ ys.length) 3)).drew := ((Below.refl _ _).alloc (Nat.le_refl _) _).drew
        have hO : OwnI (w2.alloc (.cells (madeZ ys.length) 3)).drew w2.heap.size (.slice (some ⟨w2.heap.size, 0, none⟩) 0 ys.length) [] := (own_room w2 w2.heap.size ys.length (by omega) (Nat.le_refl _)).below (Below.refl _ _).drew (Nat.le_refl _)
        have HC := Lib.hid (cp_any w2 n a xs cap (ys.length : Int) b ys cap2 w2.heap.size ys.length hp hq (hx.below bw2) (hy.below bw2) (Nat.le_refl _) ys.length [] _ (by simp) (fun i hi => by simp at hi) hW hO)
        have HC2 : Hid (Calls Try.prog 90 #[.agg #[.int .i64 n, .slice a xs.length cap], .agg #[.int .i64 (ys.length : Int), .slice b ys.length cap2], .slice (some ⟨w2.heap.size, 0, none⟩) 0 ys.length] (w2.alloc (.cells (madeZ ys.length) 3)).drew fun e w' => ∃ a' cap', e = .returned (.tuple #[.slice a' ((fpS xs ys ys.length []).getD []).length cap', .bool (fpS xs ys ys.length []).isSome]) ∧ OwnI w' w2.heap.size (.slice a' ((fpS xs ys ys.length []).getD []).length cap') ((fpS xs ys ys.length []).getD []) ∧ Below w2.heap.size w2 w') := by
          refine HC.out.mono ?_
          rintro e w' ⟨⟨hb, ⟨zs, hz, hl, rfl, ho⟩ | ⟨hz, rfl, ho⟩⟩, _⟩
          · refine ⟨some ⟨w2.heap.size, 0, none⟩, ys.length, ?_, ?_, hb⟩
            · rw [hz, ← hl]; rfl
            · rw [hz, Option.getD_some, hl]; exact ho
          · refine ⟨none, 0, ?_, ?_, hb⟩
            · rw [hz]; rfl
            · rw [hz]; exact OwnI.nil _ _
        obtain ⟨r, hr⟩ : ∃ r, r = fpS xs ys ys.length [] := ⟨_, rfl⟩
        rw [← hr] at HC2 HY
        clear HC hW hO hr
        go_wp2_with fail
        go_region_held3 (fun w' => w'.cell? ⟨w.heap.size, 0, none⟩ = some (.int .i64 n) ∧ w'.cell? ⟨w.heap.size, 1, none⟩ = some (.slice a xs.length cap) ∧ w'.cell? ⟨w.heap.size + 1, 0, none⟩ = some (.int .i64 (ys.length : Int)) ∧ w'.cell? ⟨w.heap.size + 1, 1, none⟩ = some (.slice b ys.length cap2))
          (first | exact q3 | go_keep)
          (first | (go_at_call 90; refine HC2.out.mono ?_; rintro e w3 ⟨a3, c3, rfl, ho3, hb3⟩; have q3 : w3.cell? ⟨w.heap.size, 0, none⟩ = some (.int .i64 n) ∧ w3.cell? ⟨w.heap.size, 1, none⟩ = some (.slice a xs.length cap) ∧ w3.cell? ⟨w.heap.size + 1, 0, none⟩ = some (.int .i64 (ys.length : Int)) ∧ w3.cell? ⟨w.heap.size + 1, 1, none⟩ = some (.slice b ys.length cap2) := ⟨(A2.below hb3).2.1, (A2.below hb3).2.2, (B2.below hb3).2.1, (B2.below hb3).2.2⟩))
        all_goals
          go_wp2_with fail
          rw [HY.out.1, HY.out.2]
          refine bodyPost_ret (v := .tuple #[.slice a3 (r.getD []).length c3, .bool r.isSome]) (by simp [results, Try.results46, go_sem]) rfl ?_
          exact ⟨a3, c3, rfl, ho3.mono bs2, bw2.trans (hb3.mono bs2)⟩
      · have HNO := Lib.hid (fp_no (n := n) (xs := xs) (m := m) (ys := ys) (by simp [fpOk, h6]))
        clear zA zB
        go_wp2_with fail
        refine bodyPost_ret (v := .tuple #[.slice none 0 0, .bool false]) (by simp [results, Try.results46, go_sem]) rfl ?_
        rw [HNO.out.1, HNO.out.2]
        exact ⟨none, 0, rfl, OwnI.nil _ _, bw2⟩

set_option maxRecDepth 100000 in
set_option maxHeartbeats 4000000 in
theorem walk (a0 : Option Addr) (n0 cap0 : Nat) (a1 : Option Addr) (n1 cap1 : Nat) (w : World) (hR0 : RdB w a0 n0) (hl0 : n0 ≤ 9223372036854775807) (hR1 : RdB w a1 n1) (hl1 : n1 ≤ 9223372036854775807) :
    Calls Try.prog 7 #[.slice a0 n0 cap0, .slice a1 n1 cap1] w fun e w' => e = .returned (.bool true) ∧ Below w.heap.size w w' := by
  go_enter Try.func7, Try.ntmps7
  go_wp2_with fail
  refine (big_any _ _ _ _ _ _ _ hl0 hl1).mono ?_
  rintro e w' ⟨he, rfl⟩
  rcases he with rfl | ⟨rfl, hb0, hb1⟩
  · go_wp2_with fail
    go_ret
    exact ⟨rfl, (by repeat (first | exact Below.refl _ _ | assumption | refine Below.alloc ?_ (by first | exact Nat.le_refl _ | (simp only [World.size_alloc, World.size_setCell, World.size_drew]; omega) | omega) _ | refine Below.setCell ?_ (by first | exact Nat.le_refl _ | (simp only [World.size_alloc, World.size_setCell, World.size_drew]; omega) | omega) _ | refine Below.drew ?_))⟩
  · go_wp2_with fail
    refine (drTwoTwo_any _ _ _ _ hR0 hb0).mono ?_
    rintro e w1 ⟨n, a, cap, xs, rfl, ho, hl, hn0, hn1, hx, hb⟩
    have hs1 := hb.size
    have hnn : -9223372036854775808 ≤ n ∧ n ≤ 9223372036854775807 := by omega
    have ba : Below w1.heap.size w1 (w1.alloc (.cells #[.int .i64 n, .slice a xs.length cap] 26)) := (by repeat (first | exact Below.refl _ _ | assumption | refine Below.alloc ?_ (by first | exact Nat.le_refl _ | (simp only [World.size_alloc, World.size_setCell, World.size_drew]; omega) | omega) _ | refine Below.setCell ?_ (by first | exact Nat.le_refl _ | (simp only [World.size_alloc, World.size_setCell, World.size_drew]; omega) | omega) _ | refine Below.drew ?_))
    have HO := Lib.hid (Box2.new w1 (.int .i64 n) (.slice a xs.length cap) 26)
    have HB2 := Lib.hid (hb.trans (ba.mono hb.size))
    have HR2 := Lib.hid (ho.rd.below ba)
    obtain ⟨w2, hw2⟩ : ∃ x : World, x = w1.alloc (.cells #[.int .i64 n, .slice a xs.length cap] 26) := ⟨_, rfl⟩
    have HW2 := Lib.hid hw2
    rw [← hw2] at HO HB2 HR2
    have ⟨zO2, cO2, dO2⟩ := HO.out
    clear hw2 ba hx ho hb hR0 hR1 hl0 hl1 hb0 hb1
    have HT2 := Lib.hid (Below.refl w2.heap.size w2)
    have HA := Lib.hid (fun W (hW : Below w2.heap.size w2 W) => iTwoTwo_any n a xs cap W hnn (HR2.out.below hW))
    have HC := Lib.hid (fun W (hW : Below w2.heap.size w2 W) => sTwoTwo_any n a xs cap W hnn (HR2.out.below hW))
    obtain ⟨O, hO⟩ : ∃ O, O = ordB n xs := ⟨_, rfl⟩
    obtain ⟨T, hT⟩ : ∃ T, T = twoB n xs := ⟨_, rfl⟩
    obtain ⟨I, hI⟩ : ∃ I, I = isIv n xs := ⟨_, rfl⟩
    obtain ⟨zs, hz⟩ : ∃ zs, zs = twoL n xs := ⟨_, rfl⟩
    have HK : Hid ((T = false ∧ O = false ∧ I = false) ∨ (T = false ∧ O = true ∧ I = true) ∨ (T = true ∧ O = true ∧ I = false)) := by
      rw [hT, hO, hI, twoB, isIv]
      cases ordB n xs <;> cases (twoF xs).isSome <;> simp [Hid]
    rw [← hT, ← hz] at HA HC
    have HOO := Lib.hid hO
    have HTT := Lib.hid hT
    have HZZ := Lib.hid hz
    have q1 : (T != T) = false := by simp
    have q2 : (O != O) = false := by simp
    have q3 : (I != I) = false := by simp
    have HII := Lib.hid hI
    clear hO hT hI hz
    go_wp2_with fail
    rw [← HW2.out]
    refine (HA.out _ HT2.out).mono ?_
    rintro e w3 ⟨a4, c4, rfl, ho4, hb3⟩
    have HT3 := Lib.hid (HT2.out.trans (hb3.mono HT2.out.size))
    have ⟨zO3, cO3, dO3⟩ := HO.out.below HT3.out
    clear hb3
    clear zO2 cO2 dO2
    have HZ3 := Lib.hid ho4.rd
    clear ho4
    go_wp2_with fail
    refine (HC.out _ HT3.out).mono ?_
    rintro e w4 ⟨a5, c5, rfl, ho5, hb4⟩
    have HT4 := Lib.hid (HT3.out.trans (hb4.mono HT3.out.size))
    have ⟨zO4, cO4, dO4⟩ := HO.out.below HT4.out
    clear zO3 cO3 dO3
    have HZ4 := Lib.hid (HZ3.out.below hb4)
    have HY4 := Lib.hid ho5.rd
    have HP : Hid (Calls Try.prog 40 #[.slice a4 zs.length c4, .slice a5 zs.length c5] w4 fun e w' => e = .returned (.bool true) ∧ Below w4.heap.size w4 w') := by
      have := pSame_any a4 a5 zs zs c4 c5 w4 HZ4.out HY4.out
      rw [show eqL zs zs = true by simp [eqL]] at this
      exact this
    clear hb4 ho5 HC HA
    go_wp2_with fail
    refine HP.out.mono ?_
    rintro e w5 ⟨rfl, hb5⟩
    have HT5 := Lib.hid (HT4.out.trans (hb5.mono HT4.out.size))
    have HZ5 := Lib.hid (HZ4.out.below hb5)
    have ⟨zO5, cO5, dO5⟩ := HO.out.below HT5.out
    have HO := Lib.hid (HO.out.below HT5.out)
    have HB5 := Lib.hid (HB2.out.trans (HT5.out.mono HB2.out.size))
    have HR5 := Lib.hid (HR2.out.below HT5.out)
    clear hb5 zO4 cO4 dO4 HP HY4 HZ4 HZ3 HT5
    have HT5 := Lib.hid (Below.refl w5.heap.size w5)
    have HI := Lib.hid (fun W (hW : Below w5.heap.size w5 W) => iIsInterval_any n a xs cap W hnn (HR5.out.below hW))
    have HL := Lib.hid (fun W (hW : Below w5.heap.size w5 W) => iLevels_any n a xs cap W hnn (HR5.out.below hW))
    have HE := Lib.hid (fun W (hW : Below w5.heap.size w5 W) => iEnds_any n a xs cap W hnn (HR5.out.below hW))
    unfold GotV at HE
    have HM := Lib.hid (fun W (hW : Below w5.heap.size w5 W) => iMagnitude_any n a xs cap W hnn (HR5.out.below hW))
    have HS := Lib.hid (fun W (hW : Below w5.heap.size w5 W) => iAlong_any n a xs cap W hnn (HR5.out.below hW))
    have HD := Lib.hid (fun W (hW : Below w5.heap.size w5 W) => iIsOrder_any n a xs cap W hnn (HR5.out.below hW))
    rw [← HOO.out] at HD
    rw [← HOO.out, ← HII.out] at HI
    rw [← HII.out] at HL HE HM HS
    go_wp2_with fail
    refine (HI.out _ HT5.out).mono ?_
    rintro e w6 ⟨rfl, hb6⟩
    have HT6 := Lib.hid (HT5.out.trans (hb6.mono HT5.out.size))
    have ⟨zO6, cO6, dO6⟩ := HO.out.below HT6.out
    clear hb6
    clear zO5 cO5 dO5
    go_wp2_with fail
    refine (HL.out _ HT6.out).mono ?_
    rintro e w7 ⟨a7, c7, rfl, ho7, hb7⟩
    have HT7 := Lib.hid (HT6.out.trans (hb7.mono HT6.out.size))
    have ⟨zO7, cO7, dO7⟩ := HO.out.below HT7.out
    clear hb7
    clear zO6 cO6 dO6
    clear ho7
    go_wp2_with fail
    refine (HE.out _ HT7.out).mono ?_
    rintro e w8 ⟨a8, c8, rfl, ho8, hb8⟩
    have HT8 := Lib.hid (HT7.out.trans (hb8.mono HT7.out.size))
    have ⟨zO8, cO8, dO8⟩ := HO.out.below HT8.out
    clear hb8
    clear zO7 cO7 dO7
    clear ho8
    go_wp2_with fail
    refine (HM.out _ HT8.out).mono ?_
    rintro e w9 ⟨rfl, hb9⟩
    have HT9 := Lib.hid (HT8.out.trans (hb9.mono HT8.out.size))
    have ⟨zO9, cO9, dO9⟩ := HO.out.below HT9.out
    clear hb9
    clear zO8 cO8 dO8
    go_wp2_with fail
    refine (HS.out _ HT9.out).mono ?_
    rintro e w10 ⟨a9, c9, rfl, ho9, hb10⟩
    have HT10 := Lib.hid (HT9.out.trans (hb10.mono HT9.out.size))
    have ⟨zO10, cO10, dO10⟩ := HO.out.below HT10.out
    clear hb10
    clear zO9 cO9 dO9
    clear ho9
    go_wp2_with fail
    refine (HD.out _ HT10.out).mono ?_
    rintro e w11 ⟨rfl, hb11⟩
    have HT11 := Lib.hid (HT10.out.trans (hb11.mono HT10.out.size))
    have ⟨zO11, cO11, dO11⟩ := HO.out.below HT11.out
    clear hb11
    clear zO10 cO10 dO10
    have HK2 := HK.out
    clear HK
    rcases HK2 with ⟨rfl, rfl, rfl⟩ | ⟨rfl, rfl, rfl⟩ | ⟨rfl, rfl, rfl⟩
    · go_wp2_with fail
      go_ret
      exact ⟨rfl, HB5.out.trans (HT11.out.mono HB5.out.size)⟩
    · go_wp2_with fail
      go_ret
      exact ⟨rfl, HB5.out.trans (HT11.out.mono HB5.out.size)⟩
    · have hor := HOO.out.symm
      have hr := ord_rel hor
      obtain rfl : n = (xs.length : Int) := hr.len.symm
      obtain ⟨ys, hy⟩ : ∃ ys, twoF xs = some ys := by
        have := HTT.out
        rw [twoB, hor] at this
        cases h : twoF xs with
        | none => rw [h] at this; cases this
        | some y => exact ⟨y, rfl⟩
      have hzy : zs = ys := by rw [HZZ.out, twoL, hor, hy]; rfl
      obtain ⟨A, B, C, D, hA, hB, hC, hD, e4, href⟩ := two_some (n := (xs.length : Int)) hy
      have hfv : fpV (xs.length : Int) xs 4 ptFour = zs ∧ fpB (xs.length : Int) xs 4 ptFour = true := by
        have h1 : fpO (xs.length : Int) xs 4 ptFour = some zs := by
          rw [fpO, fpOk, (ordB_iff.1 hor).1, rel_four, four_find hor, hy, hzy]; rfl
        rw [fpV, fpB, h1]; exact ⟨rfl, rfl⟩
      have HFV := Lib.hid hfv
      have e5 : zs = [(A : Int), (B : Int), (C : Int), (D : Int)] := hzy.trans e4
      simp only [refB, Bool.and_eq_true, Bool.not_eq_true'] at href
      obtain ⟨⟨⟨r1, r2⟩, r3⟩, r4⟩ := href
      have hZ := HZ5.out.below HT11.out
      subst e5
      obtain ⟨b4, o4, rfl, hbl4, hz0⟩ := hZ.cell 0 (by simp)
      obtain ⟨b5, o5, e5, _, hz1⟩ := hZ.cell 1 (by simp)
      obtain ⟨b6, o6, e6, _, hz2⟩ := hZ.cell 2 (by simp)
      obtain ⟨b7, o7, e7, _, hz3⟩ := hZ.cell 3 (by simp)
      simp only [Option.some.injEq, Addr.mk.injEq, and_true] at e5 e6 e7
      obtain ⟨rfl, rfl⟩ := e5
      obtain ⟨rfl, rfl⟩ := e6
      obtain ⟨rfl, rfl⟩ := e7
      rw [show nth [(A : Int), (B : Int), (C : Int), (D : Int)] 0 = (A : Int) from rfl, Nat.add_zero] at hz0
      rw [show nth [(A : Int), (B : Int), (C : Int), (D : Int)] 1 = (B : Int) from rfl] at hz1
      rw [show nth [(A : Int), (B : Int), (C : Int), (D : Int)] 2 = (C : Int) from rfl] at hz2
      rw [show nth [(A : Int), (B : Int), (C : Int), (D : Int)] 3 = (D : Int) from rfl] at hz3
      obtain ⟨g1, p1, rfl, hg1, hxa⟩ := (HR5.out.below HT11.out).cell A hA
      obtain ⟨g2, p2, e2, hg2, hxc⟩ := (HR5.out.below HT11.out).cell C hC
      simp only [Option.some.injEq, Addr.mk.injEq, and_true] at e2
      obtain ⟨rfl, rfl⟩ := e2
      have sA := rel_at hr hA
      have sC := rel_at hr hC
      have P1 : Hid (∀ W, Calls Try.prog 18 #[.int .i64 (nth xs A), .int .i64 (B : Int)] W fun e w' => e = .returned (.bool true) ∧ W = w') := fun W => by rw [← r1]; exact pIn_any _ _ W sA.1 sA.2 (by omega)
      have P2 : Hid (∀ W, Calls Try.prog 18 #[.int .i64 (nth xs C), .int .i64 (D : Int)] W fun e w' => e = .returned (.bool true) ∧ W = w') := fun W => by rw [← r2]; exact pIn_any _ _ W sC.1 sC.2 (by omega)
      have P3 : Hid (∀ W, Calls Try.prog 18 #[.int .i64 (nth xs A), .int .i64 (D : Int)] W fun e w' => e = .returned (.bool false) ∧ W = w') := fun W => by rw [← r4]; exact pIn_any _ _ W sA.1 sA.2 (by omega)
      have P4 : Hid (∀ W, Calls Try.prog 18 #[.int .i64 (nth xs C), .int .i64 (B : Int)] W fun e w' => e = .returned (.bool false) ∧ W = w') := fun W => by rw [← r3]; exact pIn_any _ _ W sC.1 sC.2 (by omega)
      have a1 : (A : Int) < (xs.length : Int) := by omega
      have c1 : (C : Int) < (xs.length : Int) := by omega
      have ⟨zO11', cO11', dO11'⟩ := HO.out.below HT11.out
      generalize nth xs A = XA at *
      generalize nth xs C = XC at *
      clear hZ hzy hfv r1 r2 r3 r4 hor hr hy e4
      have HF : Hid (∀ W (g : Nat), Below w5.heap.size w5 W → Rd W (some ⟨g, 0, none⟩) ptFour → Calls Try.prog 46 #[.agg #[.int .i64 (xs.length : Int), .slice (some ⟨g1, p1, none⟩) xs.length cap], .agg #[.int .i64 4, .slice (some ⟨g, 0, none⟩) 4 4]] W fun e w' => ∃ a' cap', e = .returned (.tuple #[.slice a' 4 cap', .bool true]) ∧ OwnI w' W.heap.size (.slice a' 4 cap') [(A : Int), (B : Int), (C : Int), (D : Int)] ∧ Below W.heap.size W w') := fun W g hW hg => by
        have := iFind_any (xs.length : Int) (some ⟨g1, p1, none⟩) xs cap 4 (some ⟨g, 0, none⟩) ptFour 4 W hnn (HR5.out.below hW) (by omega) hg
        rw [HFV.out.1, HFV.out.2] at this
        exact this
      have HB11 := Lib.hid (HB5.out.trans (HT11.out.mono HB5.out.size))
      go_wp2_with fail
      go_quiet (fail)
      obtain ⟨w12, hw12⟩ : ∃ x : World, x = w11.drewN nq := ⟨_, rfl⟩
      rw [← hw12]
      have hb12 : Below w11.heap.size w11 w12 := by rw [hw12]; exact Joins.below_draws _ _ _
      have HT12 := Lib.hid (HT11.out.trans (hb12.mono HT11.out.size))
      have HZ12 := Lib.hid ((HZ5.out.below HT11.out).below hb12)
      have ⟨zO12, cO12, dO12⟩ := HO.out.below HT12.out
      have hxa2 := hb12.cell (p := ⟨g1, p1 + A, none⟩) hg1
      have hxc2 := hb12.cell (p := ⟨g1, p1 + C, none⟩) hg2
      rw [hxa] at hxa2
      rw [hxc] at hxc2
      clear hw12 hb12 hxa hxc zO11' cO11' dO11' hz0 hz1 hz2 hz3
      go_wp2_with fail
      refine (P1.out _).mono ?_
      rintro e w' ⟨rfl, rfl⟩
      go_wp2_with fail
      refine (P2.out _).mono ?_
      rintro e w' ⟨rfl, rfl⟩
      go_wp2_with fail
      refine (P3.out _).mono ?_
      rintro e w' ⟨rfl, rfl⟩
      go_wp2_with fail
      refine (P4.out _).mono ?_
      rintro e w' ⟨rfl, rfl⟩
      go_wp2_with fail
      have b1 : Below w12.heap.size w12 (w12.alloc (.cells #[.int .i64 2, .int .i64 0, .int .i64 8, .int .i64 0] 3)) := (Below.refl _ _).alloc (Nat.le_refl _) _
      have b2 : Below w12.heap.size w12 ((w12.alloc (.cells #[.int .i64 2, .int .i64 0, .int .i64 8, .int .i64 0] 3)).alloc (.cells #[.int .i64 4, .slice (some ⟨w12.heap.size, 0, none⟩) 4 4] 26)) := b1.alloc b1.size _
      have hrd := (rd_lit4 w12 2 0 8 0 3).alloc (.cells #[.int .i64 4, .slice (some ⟨w12.heap.size, 0, none⟩) 4 4] 26)
      have HT13 := Lib.hid (HT12.out.trans (b2.mono HT12.out.size))
      have HB13 := Lib.hid (HB5.out.trans (HT13.out.mono HB5.out.size))
      have HZ13 := Lib.hid (HZ12.out.below b2)
      refine (HF.out _ w12.heap.size HT13.out hrd).mono ?_
      rintro e w14 ⟨a14, c14, rfl, ho14, hb14⟩
      have HQ : Hid (Calls Try.prog 40 #[.slice a14 4 c14, .slice (some ⟨b4, o4, none⟩) 4 c4] w14 fun e w' => e = .returned (.bool true) ∧ Below w14.heap.size w14 w') := by
        have := pSame_any a14 (some ⟨b4, o4, none⟩) [(A : Int), (B : Int), (C : Int), (D : Int)] [(A : Int), (B : Int), (C : Int), (D : Int)] c14 c4 w14 ho14.rd (HZ13.out.below hb14)
        rw [show eqL [(A : Int), (B : Int), (C : Int), (D : Int)] [(A : Int), (B : Int), (C : Int), (D : Int)] = true by simp [eqL]] at this
        exact this
      have HB14 := Lib.hid (HB13.out.trans (hb14.mono HB13.out.size))
      clear hb14 ho14 hrd b1 b2 HF HZ13
      go_wp2_with fail
      refine HQ.out.mono ?_
      rintro e w15 ⟨rfl, hb15⟩
      have HB15 := Lib.hid (HB14.out.trans (hb15.mono HB14.out.size))
      clear hb15
      go_wp2_with fail
      go_ret
      exact ⟨rfl, HB15.out⟩

theorem rd_of_trod {H : Type} {enc : TypeId × Value → H} {W : World} {fuel : Nat} {c : Value} {y : DataW H × List MemPlace}
    (h : DataW.trod enc Try.prog W 0 (fun _ => true) true fuel 24 [c] = some y) : ∃ (a : Option Addr) (xs : List Int) (cap : Nat), c = .slice a xs.length cap ∧ Rd W a xs ∧ ∀ k, k < xs.length → (Lit.int .i64 (nth xs k)).wf = true := by
  rcases Go.ChangeShapes.open_ints Try.underlying24 Try.underlying3 (by kernel_rfl) h with ⟨hcs, _⟩ | ⟨x, len, cap, zs, hcs, _, hl, hm, hz, _, hcell, hwf⟩
  · simp only [List.cons.injEq, and_true] at hcs
    exact ⟨none, [], 0, hcs, ⟨by simp, fun k hk => by simp at hk⟩, fun k hk => by simp at hk⟩
  · simp only [List.cons.injEq, and_true] at hcs
    simp only [if_true] at hz
    have hlen : (zs.take len).length = len := by rw [List.length_take]; omega
    have hn : ∀ k, k < len → nth (zs.take len) k = zs.getD k 0 := by
      intro k hk
      simp only [nth, List.getD_eq_getElem?_getD, List.getElem?_take, hk, if_true]
    refine ⟨some x, zs.take len, cap, by rw [hlen]; exact hcs, ⟨by rw [hlen]; unfold maxLen at hm; omega, fun k hk => ?_⟩, fun k hk => ?_⟩
    · rw [hlen] at hk
      obtain ⟨b, off, sp⟩ := x
      have h0 := hcell 0 (by omega)
      have hsp : sp = none := by simpa [Addr.add] using World.cell?_spot h0
      subst hsp
      have hk' := hcell k (by omega)
      rw [Addr.add_lit] at hk'
      exact ⟨b, off, rfl, World.block_lt_of_cell? _ _ h0, by rw [hk', hn k hk]⟩
    · rw [hlen] at hk
      rw [hn k hk]
      have hk2 : k < zs.length := by omega
      exact hwf _ (by rw [List.getD_eq_getElem?_getD, List.getElem?_eq_getElem hk2]; exact List.getElem_mem hk2)

theorem own : ownKnob Try.prog.godebug = none := by kernel_rfl
theorem laidOut : laidOutB Try.prog = true := by kernel_rfl
theorem wf_bd {n : Int} (h : (Lit.int .i64 n).wf = true) : -9223372036854775808 ≤ n ∧ n ≤ 9223372036854775807 := by
  simp [Lit.wf, IntKind.min, IntKind.max, IntKind.bits, IntKind.signed] at h
  omega

theorem wf_byte {n : Int} (h : (Lit.int .u8 n).wf = true) : 0 ≤ n ∧ n ≤ 255 := by
  simp [Lit.wf, IntKind.min, IntKind.max, IntKind.bits, IntKind.signed] at h
  omega
/-- a slice of bytes that was handed over -/
theorem rdB_of_trod {H : Type} {enc : TypeId × Value → H} {W : World} {fuel : Nat} {c : Value} {y : DataW H × List MemPlace}
    (h : DataW.trod enc Try.prog W 0 (fun _ => true) true fuel 22 [c] = some y) : ∃ (a : Option Addr) (n cap : Nat), c = .slice a n cap ∧ RdB W a n ∧ n ≤ 9223372036854775807 := by
  rcases Go.ChangeShapes.open_ints Try.underlying22 Try.underlying5 (by kernel_rfl) h with ⟨hcs, _⟩ | ⟨x, len, cap, zs, hcs, _, hl, hm, hz, _, hcell, hwf⟩
  · simp only [List.cons.injEq, and_true] at hcs
    exact ⟨none, 0, 0, hcs, ⟨fun k hk => by omega⟩, by omega⟩
  · simp only [List.cons.injEq, and_true] at hcs
    simp only [if_true] at hz
    refine ⟨some x, len, cap, hcs, ⟨fun k hk => ?_⟩, by unfold maxLen at hm; omega⟩
    obtain ⟨b, off, sp⟩ := x
    have h0 := hcell 0 (by omega)
    have hsp : sp = none := by simpa [Addr.add] using World.cell?_spot h0
    subst hsp
    have hk' := hcell k (by omega)
    rw [Addr.add_lit] at hk'
    have hk2 : k < zs.length := by omega
    have hw := hwf _ (show zs.getD k 0 ∈ zs by rw [List.getD_eq_getElem?_getD, List.getElem?_eq_getElem hk2]; exact List.getElem_mem hk2)
    refine ⟨b, off, rfl, World.block_lt_of_cell? _ _ h0, zs.getD k 0, hk', ?_⟩
    exact wf_byte hw

open Go.ChangeShapes Go.WideShapes Go.ChangeAt Go.RowKit in
set_option maxRecDepth 100000 in
theorem lifted (os : Os) (started : os.Started) (H : Type) (enc : TypeId × Value → H) :
    ReturnsInHanded {} Try.checked os 7 .any (Rows.fnFourRefuseSpec.pre6 enc Try.prog Try.f7 Rows.fnFourRefuseRow.domain false) (Rows.fnFourRefuseSpec.post enc Try.prog Try.f7 false true false false) := by
  refine returnsInHanded_of_change (C := Try.checked) own started (by kernel_rfl) Try.func7
    (ChangeSpec.witness6 (enc := enc) (C := Try.checked) false ⟨#[], #[.slice none 0 0, .slice none 0 0], []⟩ 8 (by kernel_rfl) (by kernel_rfl) (by kernel_rfl) (by kernel_rfl)) ?_
  intro W base args ds gs before hval0 hW hcnd _
  have hval : ∀ (j : Nat) t v, Try.f7.params[j]? = some t → args[j]? = some v → Value.okWide Try.prog W .any base t v := hval0
  have hW' := hW
  obtain ⟨p, q, hA0, hV, rfl, hfz, hnd⟩ := hW
  have hA : DataW.TrodAll enc Try.prog W 0 (fun _ => true) true Try.f7.params.toList args.toList ds p := hA0
  rw [Try.params7] at hA hval
  obtain ⟨v0, vs0, d0, ds0, p0, q0, hargs, rfl, rfl, h0, r0⟩ := trodAll_cons hA
  obtain ⟨v1, vs1, d1, ds1, p1, q1, rfl, rfl, rfl, h1, r1⟩ := trodAll_cons r0
  obtain ⟨rfl, rfl, rfl⟩ := trodAll_nil r1
  obtain rfl : args = #[v0, v1] := by cases args; simp_all
  obtain ⟨rfl, rfl⟩ := trodVars_none hV
  have lt0 : ∀ x ∈ p0, x.block < W.heap.size := by obtain ⟨m, hm⟩ := h0; exact DataW.trod_lt m _ _ _ hm
  have lt1 : ∀ x ∈ p1, x.block < W.heap.size := by obtain ⟨m, hm⟩ := h1; exact DataW.trod_lt m _ _ _ hm
  obtain ⟨a0, len0, cap0, rfl⟩ := okWide_slice Try.underlying22 (hval 0 22 v0 rfl rfl)
  obtain ⟨a0, n0, cap0, e0, rd0, ln0⟩ := (by obtain ⟨fu, hf⟩ := h0; simp only [Value.cells] at hf; exact rdB_of_trod hf : ∃ (a : Option Addr) (n cap : Nat), Value.slice a0 len0 cap0 = .slice a n cap ∧ RdB W a n ∧ n ≤ 9223372036854775807)
  simp only [Value.slice.injEq] at e0
  obtain ⟨rfl, rfl, rfl⟩ := e0
  obtain ⟨a1, len1, cap1, rfl⟩ := okWide_slice Try.underlying22 (hval 1 22 v1 rfl rfl)
  obtain ⟨a1, n1, cap1, e1, rd1, ln1⟩ := (by obtain ⟨fu, hf⟩ := h1; simp only [Value.cells] at hf; exact rdB_of_trod hf : ∃ (a : Option Addr) (n cap : Nat), Value.slice a1 len1 cap1 = .slice a n cap ∧ RdB W a n ∧ n ≤ 9223372036854775807)
  simp only [Value.slice.injEq] at e1
  obtain ⟨rfl, rfl, rfl⟩ := e1
  clear hA0 hval0
  refine (walk a0 len0 cap0 a1 len1 cap1 W rd0 ln0 rd1 ln1).mono fun e W' ⟨he, bel⟩ => ?_
  subst he
  exact ⟨_, rfl, _, _, _, [], _, [], hW', trodAll_mk1 (shut_bool Try.underlying4 _), (trodAll_cons_mk (Below.trod laidOut (by kernel_rfl) (of_decide_eq_true (by kernel_rfl)) h0 bel lt0) (trodAll_cons_mk (Below.trod laidOut (by kernel_rfl) (of_decide_eq_true (by kernel_rfl)) h1 bel lt1) trodAll_mk0)), rfl, bel.frame _, fun h => by cases h⟩
theorem proved : Rows.FnFourRefuseSaid :=
  OpenClaim.holds_of_wide 7 Try.f7 rfl rfl rfl rfl rfl rfl rfl ⟨rfl, rfl, rfl, rfl, rfl⟩ rfl rfl rfl rfl rfl (by kernel_rfl) Try.func7 (by kernel_rfl)
    (of_decide_eq_true (by kernel_rfl)) (by unfold Func.isWrapper; first | (rw [if_pos (by decide +kernel)]; kernel_rfl) | (rw [if_neg (by decide +kernel)]; exact ⟨rfl, rfl⟩))
    (fun os started H enc _ => lifted os started H enc)

end Go.Proofs.Ytjddjfckflgojaa.fourRefuse
