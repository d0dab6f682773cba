/- PROVED: the law FnExactAscentOfOrder returns true for every input, and each of its arguments reads afterwards as before. No conditions. -/
import Derived.Test.YtpenikceoogmgaaRows
import Derived.WalkKit
import Derived.WalkSpells
import Derived.WalkLawsBesides
import Derived.Deep.QuietTactic
import Derived.BigQuiet
import Derived.ProofKit
import Derived.OpenShut
import Derived.ShutString
import Derived.ChangeOld
import Derived.Below
import Derived.Lib.SmallJoins
import Derived.Lib.Hide
import Derived.Shelf.Small.Bits
import Derived.Shelf.Small.Wraps
import Derived.Shelf.Strconv.Itoa0
import Derived.Shelf.Sort.Plain
import Derived.Shelf.Slices.Reverse
import Derived.Shelf.Slices.Equal
import Derived.Shelf.Slices.CompactI
import Derived.Shelf.Slices.SearchI
import Derived.Shelf.Slices.Delete
import Derived.Shelf.Slices.Cells
import Derived.Shelf.Slices.In.SortNone
import Derived.Shelf.Slices.Empties2
import Derived.Sort.OwnSortedInts
import Derived.Lib.SliceRun
import Derived.Deep.RegionLaw
import Derived.Maps.AppendAt
import Derived.Deep.AppendLies
import Derived.Lib.SlicesCompact
import Derived.Lib.RowBridge
import Derived.Deep.RegionHeld3
import Derived.Test.YtpenikceoogmgaaAscentOfOrderP2
namespace Go.Proofs.Ytpenikceoogmgaa.ascentOfOrder
open Go Go.RowKit
set_option linter.unusedVariables false
set_option linter.unusedSimpArgs false
set_option maxHeartbeats 400000
open Go.Shelf
set_option maxRecDepth 100000 in
set_option maxHeartbeats 1000000 in
theorem takeOut_any (g c B n x : Nat) (vl : List Value) (f : Nat → Nat → Int) (w : World) (h : RowsP w B (.slice (some ⟨g, 0, none⟩) n c) vl (sqM f n n)) (hx : x < n) (hB : B ≤ w.heap.size) (hn : n ≤ 12) (hnc : n ≤ c) (hc : c ≤ 1048576) :
    Calls Try.prog 127 #[.slice (some ⟨g, 0, none⟩) n c, .int .i64 (x : Int)] w fun e w' => ∃ ul, e = .returned (.slice (some ⟨g, 0, none⟩) (n - 1) c) ∧ RowsP w' B (.slice (some ⟨g, 0, none⟩) (n - 1) c) ul (sqM (shF f n x) (n - 1) (n - 1)) ∧ Below B w w' := by
  have hxc : x ≤ c := by omega
  have hxn : x ≤ n := by omega
  have HSW := Lib.hid (fun c2 => swapLast_any g c c2 B n n x x vl f w h hxn hx (by omega) hB (by omega))
  have hgl := h.o.lt g rfl
  obtain ⟨F, hF⟩ : ∃ F, F = swF f n x x := ⟨_, rfl⟩
  have HSH : Hid (∀ m k, sqM (shF f n x) m k = sqM (fun a b => F (skp x a) (skp x b)) m k) := fun m k => by rw [hF]; rfl
  rw [← hF] at HSW
  clear hF h
  go_enter Try.func127, Try.ntmps127
  go_wp2_with fail
  refine (HSW.out _).mono ?_
  rintro e w1 ⟨rfl, hro1, hb1⟩
  have hsl : ∀ i, i < n → ∃ a m c, valAt vl i = .slice a m c := fun i hi => by
    obtain ⟨a9, c9, e9⟩ := (hro1.o.row i (by rw [sqM_len]; exact hi)).form
    exact ⟨a9, _, c9, e9⟩
  have hown := hro1.o.own
  rw [sqM_len] at hown
  have HDEL := Lib.hid (delRows_any g n c B x vl w1 hown hsl hx hnc hc)
  have HR1 := Lib.hid hro1
  have hs1 := hb1.size
  clear hro1 hsl hown HSW
  go_wp2_with fail
  refine HDEL.out.mono ?_
  rintro e w2 ⟨rfl, ho2, hg2⟩
  have hro2 := HR1.out.del hx ho2 hg2
  have b2 : Below B w w2 := hb1.trans (grown_below hg2 B (by omega) (by omega))
  obtain ⟨G2, hG2⟩ : ∃ G2 : Nat → Nat → Int, G2 = fun a b => F (skp x a) b := ⟨_, rfl⟩
  have HSH2 : Hid (∀ m k, sqM (shF f n x) m k = sqM (fun a b => G2 a (skp x b)) m k) := fun m k => by rw [HSH.out, hG2]
  rw [← hG2, ← tkM_zero (x := x)] at hro2
  have HR2 := Lib.hid hro2
  have hs2 : w.heap.size ≤ w2.heap.size := b2.size
  obtain ⟨ul0, hul0⟩ : ∃ ul0, ul0 = vl.take x ++ vl.drop (x+1) := ⟨_, rfl⟩
  rw [← hul0] at HR2
  obtain ⟨N1, hN1⟩ : ∃ N1, N1 = n - 1 := ⟨_, rfl⟩
  have HN1 := Lib.hid hN1
  have hN1n : N1 ≤ n := by omega
  rw [← hN1] at HR2 ⊢
  clear hro2 ho2 hg2 hG2 hul0 HDEL HR1 hN1
  go_wp2_with fail
  go_loopw [20] (fun i wr => ∃ (k : Nat) (ul : List Value), k ≤ N1 ∧ i = .int .i64 k ∧ RowsP wr B (.slice (some ⟨g, 0, none⟩) N1 c) ul (tkM G2 n x k) ∧ Below B w wr) (fun i _ => N1 - (intOf i).toNat)
  case atStart => exact ⟨0, _, Nat.zero_le _, rfl, HR2.out, b2⟩
  case round =>
    clear b2
    obtain ⟨k, ul, hk, rfl, hro, hb⟩ := hrel
    have hbs := hb.size
    by_cases hlt : k < N1
    · have k1 : (k : Int) < (N1 : Int) := by omega
      have hkl : k < n - 1 := by rw [← HN1.out]; exact hlt
      have hk9 : k < (tkM G2 n x k).length := by rw [tkM_len]; exact hkl
      obtain ⟨g4, e4, hg4, hg5, hc4, hf4⟩ := hro.outer hk9
      simp only [Option.some.injEq, Addr.mk.injEq, and_true] at e4
      subst e4
      have hrow := hro.o.row k hk9
      obtain ⟨ar, cr, er⟩ := hrow.form
      have hrl : (rowL (tkM G2 n x k) k).length = n := by rw [tkM_row hkl, if_neg (Nat.lt_irrefl k), fmap_len]
      have HRO := Lib.hid hro
      have HER := Lib.hid er
      have HTS := Lib.hid (tkM_step (f := G2) hkl hx)
      rw [er] at hc4 hrow
      have HDL := Lib.hid (delOwn ar cr x (rowL (tkM G2 n x k) k) B wr hrow (by rw [hrl]; exact hx))
      rw [hrl] at hc4 HDL HER
      have HNN : Hid (n - 1 = N1) := HN1.out.symm
      rw [HNN.out] at HDL
      clear hro hrow er hrl hk9 hkl
      go_wp2_with fail
      refine HDL.out.mono ?_
      rintro e w3 ⟨rfl, ho3, hg3⟩
      obtain ⟨g9, c9, e9, hg9, hg10, ⟨z9, hz9⟩, hf9, hnew⟩ := HRO.out.swapRow (k := k) (by rw [tkM_len, HNN.out]; exact hlt) (by rw [HER.out]; exact hg3) ho3 (by rw [HER.out]; cases ar <;> rfl)
      simp only [Value.slice.injEq, Option.some.injEq, Addr.mk.injEq, and_true] at e9
      obtain ⟨rfl, -, -⟩ := e9
      rw [HTS.out] at hnew
      have HNEW := Lib.hid hnew
      have hU := (HRO.out.o.row k (by rw [tkM_len, HNN.out]; exact hlt)).lt
      rw [HER.out] at hU
      have b3 := hb.trans (below_of_grown hg3 (fun c e => (hU c e).1) (by omega))
      have b4 := b3.setCell (p := ⟨g, k, none⟩) hg4 (.slice ar N1 cr)
      clear ho3 hg3 hnew hU
      go_wp2_with fail
      go_roundw
      case rel => exact ⟨k + 1, _, by omega, by go_num, HNEW.out, b4⟩
      case measure => simp [intOf]; omega
    · obtain rfl : k = N1 := by omega
      have HR := Lib.hid hro
      clear hro
      go_wp2_with fail
      go_ret
      have hf := HR.out
      rw [show tkM G2 n x k = sqM (fun a b => G2 a (skp x b)) k k by have h := tkM_end (f := G2) (n := n) (x := x); rw [← HN1.out] at h; exact h, ← HSH2.out] at hf
      rw [← HN1.out]
      exact ⟨ul, rfl, hf, hb⟩

def addB (s x : Int) : Bool := decide (0 ≤ x) && decide (s + x ≤ 12)
theorem addB_iff {s x : Int} : addB s x = true ↔ 0 ≤ x ∧ s + x ≤ 12 := by simp [addB]
def addW (b : Nat) (s x : Int) (w : World) : World := if addB s x = true then w.setCell ⟨b, 0, none⟩ (.int .i64 (s + x)) else w
theorem iAdd_any (b : Nat) (s x : Int) (v : Value) (w : World) (hv : Var2 w b (.int .i64 s) v) (h0 : 0 ≤ s ∧ s ≤ 12) :
    Calls Try.prog 130 #[.pointer (some ⟨b, 0, none⟩), .int .i64 x] w fun e w' => e = .returned (.bool (addB s x)) ∧ w' = addW b s x w := by
  have ⟨⟨z, c, d⟩, f, g⟩ := hv
  by_cases h1 : x < 0
  · have H : Hid (addB s x = false) := by rw [Hid, ← Bool.not_eq_true, addB_iff]; omega
    go_enter Try.func130, Try.ntmps130
    go_wp2_with fail
    go_ret
    exact ⟨ret_bool H.out.symm, by rw [addW, H.out]; rfl⟩
  · by_cases h2 : 12 - s < x
    · have H : Hid (addB s x = false) := by rw [Hid, ← Bool.not_eq_true, addB_iff]; omega
      go_enter Try.func130, Try.ntmps130
      go_wp2_with fail
      go_ret
      exact ⟨ret_bool H.out.symm, by rw [addW, H.out]; rfl⟩
    · have H : Hid (addB s x = true) := addB_iff.2 (by omega)
      go_enter Try.func130, Try.ntmps130
      go_wp2_with fail
      go_ret
      exact ⟨ret_bool H.out.symm, by rw [addW, H.out]; rfl⟩

theorem infoSum : (Try.prog.info? 118).map (fun i => (i.zero, i.size, i.bytes)) = some (some (.agg #[.int .i64 0, .slice none 0 0]), 2, 32) := by kernel_rfl
theorem valAt_end (vl : List Value) (v : Value) : valAt (vl ++ [v]) vl.length = v := by
  simp [valAt]
/-- the cells of the first k rows, each with its sum ahead of it -/
def pcs (xss : List (List Int)) (vl : List Value) : Nat → List Value
  | 0 => []
  | k+1 => pcs xss vl k ++ [.int .i64 (totR (rowL xss k)), valAt vl k]
theorem pcs_len (xss : List (List Int)) (vl : List Value) : ∀ k, (pcs xss vl k).length = k * 2
  | 0 => rfl
  | k+1 => by rw [pcs, List.length_append, pcs_len xss vl k]; simp; omega
theorem pcs_at {xss : List (List Int)} {vl : List Value} {i : Nat} : ∀ {k : Nat}, i < k → (pcs xss vl k)[i * 2]? = some (.int .i64 (totR (rowL xss i))) ∧ (pcs xss vl k)[i * 2 + 1]? = some (valAt vl i)
  | 0, h => by omega
  | k+1, h => by
    have hl := pcs_len xss vl k
    by_cases e : i = k
    · subst e
      rw [pcs, List.getElem?_append_right (by omega), List.getElem?_append_right (by omega), hl]
      refine ⟨?_, ?_⟩
      · rw [Nat.sub_self]; rfl
      · rw [show i * 2 + 1 - i * 2 = 1 by omega]; rfl
    · rw [pcs, List.getElem?_append_left (by omega), List.getElem?_append_left (by omega)]
      exact pcs_at (by omega)
theorem rowL_app {xss yss : List (List Int)} {k : Nat} (h : k < xss.length) : rowL (xss ++ yss) k = rowL xss k := by
  rw [rowL, rowL, List.getD_eq_getElem?_getD, List.getD_eq_getElem?_getD, List.getElem?_append_left h]
theorem rowL_last (xss : List (List Int)) (r : List Int) : rowL (xss ++ [r]) xss.length = r := by
  simp [rowL]
theorem rowL_take {xss : List (List Int)} {j k : Nat} (h : j < k) : rowL (xss.take k) j = rowL xss j := by
  rw [rowL, rowL, List.getD_eq_getElem?_getD, List.getD_eq_getElem?_getD, List.getElem?_take, if_pos h]
theorem take_snocR {xss : List (List Int)} {k : Nat} (h : k < xss.length) : xss.take (k+1) = xss.take k ++ [rowL xss k] := by
  rw [List.take_succ_eq_append_getElem h]
  simp [rowL, h]
theorem pcs_congr {xss yss : List (List Int)} {vl ul : List Value} : ∀ {k : Nat}, (∀ j, j < k → rowL xss j = rowL yss j ∧ valAt vl j = valAt ul j) → pcs xss vl k = pcs yss ul k
  | 0, _ => rfl
  | k+1, h => by rw [pcs, pcs, pcs_congr (fun j hj => h j (by omega)), (h k (by omega)).1, (h k (by omega)).2]
/-- rows with their sums, each row in a block of its own -/
structure SumP (w : World) (B : Nat) (v : Value) (vl : List Value) (xss : List (List Int)) : Prop where
  own : w.ownsRow B 118 2 v xss.length (pcs xss vl xss.length)
  vlen : vl.length = xss.length
  row : ∀ k, k < xss.length → OwnI w B (valAt vl k) (rowL xss k)
  apart : ∀ k, k < xss.length → ∀ c, (valAt vl k).ownBlock = some c → v.ownBlock ≠ some c
  pair : ∀ j k, j < k → k < xss.length → ∀ c, (valAt vl j).ownBlock = some c → (valAt vl k).ownBlock ≠ some c
theorem SumP.nil (w : World) (B : Nat) : SumP w B (.slice none 0 0) [] [] :=
  ⟨World.ownsRow_nil _ _ _ _, rfl, fun k hk => by simp at hk, fun k hk => by simp at hk, fun j k _ hk => by simp at hk⟩
theorem SumP.form {w : World} {B : Nat} {v : Value} {vl : List Value} {xss : List (List Int)} (h : SumP w B v vl xss) : ∃ a cap, v = .slice a xss.length cap := by
  rcases h.own.2 with ⟨rfl, h0⟩ | ⟨g, cap, cur, rfl, _⟩
  · exact ⟨none, 0, by rw [h0]⟩
  · exact ⟨_, _, rfl⟩
theorem SumP.below {w w' : World} {B B' : Nat} {v : Value} {vl : List Value} {xss : List (List Int)} (h : SumP w B v vl xss) (hb : Below B' w w') (hB : w.heap.size ≤ B') : SumP w' B v vl xss :=
  ⟨ownsRow_bel h.own hb hB, h.vlen, fun k hk => (h.row k hk).below hb hB, h.apart, h.pair⟩
theorem SumP.lt {w : World} {B : Nat} {v : Value} {vl : List Value} {xss : List (List Int)} (h : SumP w B v vl xss) : ∀ b, v.ownBlock = some b → B ≤ b ∧ b < w.heap.size := World.ownsRow.lt h.own
theorem SumP.blk {w : World} {B : Nat} {v : Value} {vl : List Value} {xss : List (List Int)} (h : SumP w B v vl xss) : (∀ c, v.ownBlock = some c → c < w.heap.size) ∧ ∀ k, k < xss.length → ∀ c, (valAt vl k).ownBlock = some c → c < w.heap.size :=
  ⟨fun c e => (h.lt c e).2, fun k hk c e => ((h.row k hk).lt c e).2⟩
theorem SumP.mono {w : World} {B B' : Nat} {v : Value} {vl : List Value} {xss : List (List Int)} (h : SumP w B v vl xss) (hB : B' ≤ B) : SumP w B' v vl xss := by
  refine ⟨⟨h.own.1, ?_⟩, h.vlen, fun k hk => (h.row k hk).mono hB, h.apart, h.pair⟩
  rcases h.own.2 with hn | ⟨g, cap, cur, e, hb, rest⟩
  · exact .inl hn
  · exact .inr ⟨g, cap, cur, e, by omega, rest⟩
/-- the cells of a part -/
theorem SumP.at {w : World} {B n cap : Nat} {a : Option Addr} {vl : List Value} {xss : List (List Int)} (h : SumP w B (.slice a n cap) vl xss) {k : Nat} (hk : k < xss.length) : ∃ g, a = some ⟨g, 0, none⟩ ∧ g < w.heap.size ∧ w.cell? ⟨g, k * 2, none⟩ = some (.int .i64 (totR (rowL xss k))) ∧ w.cell? ⟨g, k * 2 + 1, none⟩ = some (valAt vl k) := by
  rcases h.own.2 with ⟨e, h0⟩ | ⟨g, cap3, cur, e, hb, hg, hn, hm, hs, ht⟩
  · omega
  · simp only [Value.slice.injEq] at e
    obtain ⟨rfl, rfl, rfl⟩ := e
    have ⟨h1, h2⟩ := pcs_at (xss := xss) (vl := vl) hk
    exact ⟨g, rfl, (Array.getElem?_eq_some_iff.1 hg).1, by rw [World.ownsRow.cellAt h.own (k*2) (by omega), h1], by rw [World.ownsRow.cellAt h.own (k*2+1) (by omega), h2]⟩
/-- one part more at the end -/
theorem SumP.snoc {w w' : World} {B C : Nat} {v v' : Value} {vl : List Value} {xss : List (List Int)} {u : Value} {r : List Int} (h : SumP w B v vl xss) (hr : OwnI w C u r) (hBC : B ≤ C) (hvC : ∀ c, v.ownBlock = some c → c < C) (hrC : ∀ k, k < xss.length → ∀ c, (valAt vl k).ownBlock = some c → c < C)
    (ho : w'.ownsRow B 118 2 v' (xss.length + 1) (pcs xss vl xss.length ++ [.int .i64 (totR r), u])) (hg : w.grownBy w' v.ownBlock) (hv' : v'.ownBlock = v.ownBlock ∨ ∃ m, w.heap.size ≤ m ∧ v'.ownBlock = some m) : SumP w' B v' (vl ++ [u]) (xss ++ [r]) := by
  have hl := h.vlen
  have e1 : ∀ k, k < xss.length → valAt (vl ++ [u]) k = valAt vl k := fun k hk => by rw [valAt, valAt, List.getD_eq_getElem?_getD, List.getD_eq_getElem?_getD, List.getElem?_append_left (by omega)]
  have e2 : valAt (vl ++ [u]) xss.length = u := by rw [← hl]; exact valAt_end vl u
  have hur := hr.lt
  refine ⟨?_, by simp [hl], fun k hk => ?_, fun k hk c hc hc2 => ?_, fun j k hjk hk c hc => ?_⟩
  · rw [List.length_append, List.length_singleton, pcs, e2, rowL_last, pcs_congr (yss := xss) (ul := vl) (fun j hj => ⟨rowL_app hj, e1 j hj⟩)]
    exact ho
  · rw [List.length_append, List.length_singleton] at hk
    by_cases e : k = xss.length
    · subst e
      rw [e2, rowL_last]
      exact (hr.mono hBC).kept hg (own_ne (fun c h1 h3 => by have := hvC c h3; have := (hur c h1).1; omega))
    · rw [e1 k (by omega), rowL_app (by omega)]
      exact (h.row k (by omega)).kept hg (own_ne (fun c h1 h3 => h.apart k (by omega) c h1 h3))
  · rw [List.length_append, List.length_singleton] at hk
    by_cases e : k = xss.length
    · subst e
      rw [e2] at hc
      have h1 := hur c hc
      rcases hv' with h3 | ⟨m, hm, h3⟩
      · rw [h3] at hc2; have := hvC c hc2; omega
      · rw [h3] at hc2; simp only [Option.some.injEq] at hc2; omega
    · rw [e1 k (by omega)] at hc
      have h1 := ((h.row k (by omega)).lt c hc).2
      rcases hv' with h3 | ⟨m, hm, h3⟩
      · rw [h3] at hc2; exact h.apart k (by omega) c hc hc2
      · rw [h3] at hc2; simp only [Option.some.injEq] at hc2; omega
  · rw [List.length_append, List.length_singleton] at hk
    rw [e1 j (by omega)] at hc
    by_cases e : k = xss.length
    · subst e
      rw [e2]
      intro h3
      have := hrC j (by omega) c hc
      have := (hur c h3).1
      omega
    · rw [e1 k (by omega)]
      exact h.pair j k hjk (by omega) c hc

/-- the first of two cells that may be written has been written -/
theorem Var2.set0 {w : World} {b : Nat} {u v : Value} (h : Var2 w b u v) (u' : Value) : Var2 (w.setCell ⟨b, 0, none⟩ u') b u' v := by
  refine ⟨⟨by simpa using h.1.1, ?_, ?_⟩, by simpa using h.2.1, by simpa using h.2.2⟩
  · rw [World.cell?_setCell_same _ _ _ h.1.2.1]
  · rw [World.cell?_setCell_other _ _ _ _ (by simp)]; exact h.1.2.2
def addV (s x : Int) : Int := if addB s x = true then s + x else s
theorem iPut_any (b : Nat) (s x : Int) (v : Value) (ys : List Int) (w : World) (hv : Var2 w b (.int .i64 s) v) (h0 : 0 ≤ s ∧ s ≤ 12) (ho : OwnI w (b+1) v ys) (h63 : ys.length ≤ 1048576) :
    Calls Try.prog 162 #[.pointer (some ⟨b, 0, none⟩), .int .i64 x, .int .i64 x] w fun e w' => e = .returned (.bool (addB s x)) ∧ ∃ v', Var2 w' b (.int .i64 (addV s x)) v' ∧ OwnI w' (b+1) v' (ys ++ [x]) ∧ Below b w w' := by
  have ⟨⟨z, c, d⟩, f, g⟩ := hv
  have HV := Lib.hid hv
  obtain ⟨av, cv, rfl⟩ := ho.form
  have HO := Lib.hid ho
  clear hv ho
  go_enter Try.func162, Try.ntmps162
  go_wp2_with (at_builtin; refine push_at rfl _ _ rfl (z := x) rfl HO.out rfl (by omega) (by omega) ?_)
  intro v3 w3 o3 hg hat
  have hU := HO.out.lt
  have hv3 := HV.out.kept hg (ne_own (fun c e => by have := (hU c e).1; omega))
  have b3 : Below b w w3 := below_of_grown hg (fun c e => by have := (hU c e).1; omega) (by omega)
  have ⟨⟨z3, c3, d3⟩, f3, g3⟩ := hv3
  clear hg hat hU
  obtain ⟨a3, k3, rfl⟩ := o3.form
  rw [show (ys ++ [x]).length = ys.length + 1 by simp] at o3 ⊢
  go_wp2_with fail
  have hv4 := hv3.set1 (.slice a3 (ys.length + 1) k3)
  refine (iAdd_any b s x _ _ hv4 h0).mono ?_
  rintro e w5 ⟨rfl, hw5⟩
  have H : Hid (∃ v', Var2 w5 b (.int .i64 (addV s x)) v' ∧ OwnI w5 (b+1) v' (ys ++ [x]) ∧ Below b w w5) := by
    rw [hw5, addW, addV]
    cases addB s x
    · exact ⟨.slice a3 (ys.length + 1) k3, by simpa using hv4, by simpa using o3.setBelow (show b < b + 1 by omega) _, by simpa using b3.setCell (Nat.le_refl _) _⟩
    · exact ⟨.slice a3 (ys.length + 1) k3, by simpa using hv4.set0 _, by simpa using (o3.setBelow (show b < b + 1 by omega) _).setBelow (show b < b + 1 by omega) _, by simpa using (b3.setCell (Nat.le_refl _) _).setCell (Nat.le_refl _) _⟩
  clear hw5 hv4
  go_wp2_with fail
  go_ret
  exact ⟨rfl, H.out⟩

set_option maxRecDepth 100000 in
theorem iPutS_any (b : Nat) (s x : Int) (v : Value) (vl : List Value) (xss : List (List Int)) (r : List Int) (ra : Option Addr) (rc B C : Nat) (w : World) (hv : Var2 w b (.int .i64 s) v) (h0 : 0 ≤ s ∧ s ≤ 12)
    (hp : SumP w B v vl xss) (hr : OwnI w C (.slice ra r.length rc) r) (hbB : b + 1 ≤ B) (hBC : B ≤ C) (hC : C ≤ w.heap.size) (hvC : ∀ c, v.ownBlock = some c → c < C) (hrC : ∀ k, k < xss.length → ∀ c, (valAt vl k).ownBlock = some c → c < C) (h63 : xss.length ≤ 1048576) :
    Calls Try.prog 163 #[.pointer (some ⟨b, 0, none⟩), .agg #[.int .i64 (totR r), .slice ra r.length rc], .int .i64 x] w fun e w' => e = .returned (.bool (addB s x)) ∧ ∃ v', Var2 w' b (.int .i64 (addV s x)) v' ∧ SumP w' B v' (vl ++ [.slice ra r.length rc]) (xss ++ [r]) ∧ Below b w w' := by
  obtain ⟨i0, hi, hz0, hz1, hz2⟩ := info_parts infoSum
  have ⟨⟨z, c, d⟩, f, g⟩ := hv
  have HV := Lib.hid hv
  obtain ⟨av, cv, rfl⟩ := hp.form
  have HP := Lib.hid hp
  have HR := Lib.hid hr
  have HB := Lib.hid hvC
  have HRB := Lib.hid hrC
  have Hown := Lib.hid (ownsRow_bel hp.own (w' := ((w.alloc (.cells #[.int .i64 (totR r), .slice ra r.length rc] 118)).alloc (.cells #[.int .i64 (totR r), .slice ra r.length rc] 118)).drew) ((((Below.refl _ _).alloc (Nat.le_refl _) _).alloc (by simp) _).drew) (Nat.le_refl _))
  have hnews := cell_two_new (w.alloc (.cells #[.int .i64 (totR r), .slice ra r.length rc] 118)) (.int .i64 (totR r)) (.slice ra r.length rc) 118
  simp only [World.size_alloc] at hnews
  have Hnews := Lib.hid hnews
  have hpl := pcs_len xss vl xss.length
  have HPL := Lib.hid hpl
  clear hv hp hr hnews hvC hrC hpl
  obtain ⟨PC, hPC⟩ : ∃ PC, PC = pcs xss vl xss.length := ⟨_, rfl⟩
  have HPC := Lib.hid hPC
  rw [← hPC] at Hown HPL
  clear hPC
  obtain ⟨T, hT⟩ : ∃ T, T = totR r := ⟨_, rfl⟩
  have HT := Lib.hid hT
  rw [← hT] at Hown Hnews ⊢
  clear hT
  go_enter Try.func163, Try.ntmps163
  go_wp2_with fail
  go_region_law (refine step_append_lies _ (by rfl) _ _ _ (by rfl) B 118 i0 (.agg #[.int .i64 0, .slice none 0 0]) 2 32 Try.underlying111 hi hz0 hz1 hz2 rfl (by omega) (.slice av xss.length cv) xss.length PC (by rfl) Hown.out ⟨w.heap.size + 1, 0, none⟩ 1 1 [.int .i64 T, .slice ra r.length rc] (by rfl) (by rfl) Hnews.out (by intro u hu; simp at hu; rcases hu with rfl | rfl <;> rfl) (by omega) (by unfold maxLen; omega) (by omega) (by simp; omega) (w.heap.size + 2) (by simp) ?_; intro gg cap3 w3 hown3 hgrow hat hlt3; have hg2 : w.grownBy w3 (Value.slice av xss.length cv).ownBlock := grown_alloc_set (grown_alloc_set (o := .cells #[.int .i64 T, .slice ra r.length rc] 118) ⟨hgrow.os, hgrow.tape, hgrow.output, hgrow.size, hgrow.block⟩); have hv3 := HV.out.kept hg2 (ne_own (fun c e => by have := (HP.out.lt c e).1; omega)); have ⟨⟨z3, c3, d3⟩, f3, g3⟩ := hv3)
  all_goals
    have hp3 : SumP w3 B (.slice (some ⟨gg, 0, none⟩) (xss.length + 1) cap3) (vl ++ [.slice ra r.length rc]) (xss ++ [r]) := by
      refine HP.out.snoc HR.out hBC HB.out HRB.out ?_ hg2 ?_
      · rw [← HPC.out, ← HT.out]; exact hown3
      · rcases hat with h | h
        · exact .inl (by rw [h]; rfl)
        · exact .inr ⟨gg, by omega, rfl⟩
    have b3 : Below b w w3 := below_of_grown hg2 (fun c e => by have := (HP.out.lt c e).1; omega) (by omega)
    have hv4 := hv3.set1 (.slice (some ⟨gg, 0, none⟩) (xss.length + 1) cap3)
    clear hown3 hgrow hat hg2
    go_wp2_with fail
    refine (iAdd_any b s x _ _ hv4 h0).mono ?_
    rintro e w5 ⟨rfl, hw5⟩
    have hset : ∀ (p : Addr) (u : Value) (w9 : World), p.block = b → SumP w9 B (.slice (some ⟨gg, 0, none⟩) (xss.length + 1) cap3) (vl ++ [.slice ra r.length rc]) (xss ++ [r]) → SumP (w9.setCell p u) B (.slice (some ⟨gg, 0, none⟩) (xss.length + 1) cap3) (vl ++ [.slice ra r.length rc]) (xss ++ [r]) := fun p u w9 e h =>
      ⟨ownsRow_setCell_below h.own (by rw [e]; omega) u, h.vlen, fun k hk => (h.row k hk).setBelow (by rw [e]; omega) u, h.apart, h.pair⟩
    have H : Hid (∃ v', Var2 w5 b (.int .i64 (addV s x)) v' ∧ SumP w5 B v' (vl ++ [.slice ra r.length rc]) (xss ++ [r]) ∧ Below b w w5) := by
      rw [hw5, addW, addV]
      cases addB s x
      · exact ⟨.slice (some ⟨gg, 0, none⟩) (xss.length + 1) cap3, by simpa using hv4, by simpa using hset _ _ _ rfl hp3, by simpa using b3.setCell (Nat.le_refl _) _⟩
      · exact ⟨.slice (some ⟨gg, 0, none⟩) (xss.length + 1) cap3, by simpa using hv4.set0 _, by simpa using hset _ _ _ rfl (hset _ _ _ rfl hp3), by simpa using (b3.setCell (Nat.le_refl _) _).setCell (Nat.le_refl _) _⟩
    clear hw5 hv4 hset hp3
    go_wp2_with fail
    go_ret
    exact ⟨rfl, H.out⟩

theorem add_ok {s x : Int} (h : addB s x = true) : addV s x = s + x := by rw [addV, if_pos h]
/-- the first k rows may be rows -/
def adTo (xss : List (List Int)) (k : Nat) : Prop := ∀ i, i < k → (∀ j, j < (rowL xss i).length → 0 ≤ nth (rowL xss i) j) ∧ 0 < totR (rowL xss i)
theorem ad_no_num {xss : List (List Int)} {k j : Nat} (hk : k < xss.length) (hj : j < (rowL xss k).length) (hpre : ∀ i, i < j → 0 ≤ nth (rowL xss k) i) (h : addB (totI (rowL xss k) j) (nth (rowL xss k) j) = false) : adB xss = false := by
  rw [← Bool.not_eq_true]
  intro h2
  have ⟨h3, h4⟩ := adB_iff.1 h2
  have h5 := (adB_row h2 hk).2
  have h6 := totI_mono (xs := rowL xss k) (j := j + 1) (k := (rowL xss k).length) (by omega) (h3 k hk).1
  rw [totR] at h5
  rw [totI] at h6
  rw [← Bool.not_eq_true, addB_iff] at h
  exact h ⟨(h3 k hk).1 j hj, by omega⟩
theorem ad_no_row {xss : List (List Int)} {k : Nat} (hk : k < xss.length) (h : addB (matS xss k) (totR (rowL xss k)) = false) : adB xss = false := by
  rw [← Bool.not_eq_true]
  intro h2
  have ⟨h3, h4⟩ := adB_iff.1 h2
  have h5 := adB_row h2 hk
  have h6 := matS_mono (xss := xss) (j := k + 1) (k := xss.length) (by omega) (fun i hi => by have := (h3 i hi).2; omega)
  rw [matS] at h6
  rw [← Bool.not_eq_true, addB_iff] at h
  exact h ⟨by omega, by omega⟩
set_option maxRecDepth 100000 in
set_option maxHeartbeats 1000000 in
theorem iAddUp_any (a : Option Addr) (xss : List (List Int)) (cap : Nat) (w : World) (hx : RdS w a xss) (hs : xss.length + totS xss xss.length ≤ 1048576) :
    Calls Try.prog 139 #[.slice a xss.length cap] w fun e w' => ∃ s va vn vc, e = .returned (.tuple #[.agg #[.int .i64 s, .slice va vn vc], .bool (adB xss)]) ∧ (adB xss = true → s = matS xss xss.length ∧ ∃ vl, SumP w' w.heap.size (.slice va vn vc) vl xss) ∧ Below w.heap.size w w' := by
  have hlen := hx.len
  have HX := Lib.hid hx
  have HS := Lib.hid hs
  go_enter Try.func139, Try.ntmps139
  clear hx hs
  go_wp2_with fail
  go_loopw [12] (fun i wr => ∃ (k : Nat) (v : Value) (vl : List Value), k ≤ xss.length ∧ i = .int .i64 k ∧ Hid (adTo xss k) ∧ 0 ≤ matS xss k ∧ matS xss k ≤ 12 ∧ Var2 wr w.heap.size (.int .i64 0) (.slice none 0 0) ∧ Var2 wr (w.heap.size + 1) (.int .i64 (matS xss k)) v ∧ SumP wr (w.heap.size + 2) v vl (xss.take k) ∧ Below w.heap.size w wr) (fun i _ => xss.length - (intOf i).toNat)
  case atStart => exact ⟨0, .slice none 0 0, [], Nat.zero_le _, rfl, fun j hj => by omega, by simp [matS], by simp [matS], (Var2.new w _ _ _).alloc _, by have h := Var2.new (w.alloc (.cells #[.int .i64 0, .slice none 0 0] 113)) (.int .i64 0) (.slice none 0 0) 113; rw [World.size_alloc] at h; exact h, by rw [List.take_zero]; exact SumP.nil _ _, (by repeat (first | exact Below.refl _ _ | assumption | refine Below.alloc ?_ (by first | exact Nat.le_refl _ | (simp only [World.size_alloc, World.size_setCell, World.size_drew]; omega) | omega) _ | refine Below.setCell ?_ (by first | exact Nat.le_refl _ | (simp only [World.size_alloc, World.size_setCell, World.size_drew]; omega) | omega) _ | refine Below.drew ?_))⟩
  case round =>
    obtain ⟨k, v, vl, hk, rfl, HAD, hm0, hm1, hR, hA, hp, hb⟩ := hrel
    have ⟨av, cv, ev⟩ := hp.form
    obtain ⟨LK, hLK⟩ : ∃ LK, LK = (xss.take k).length := ⟨_, rfl⟩
    rw [← hLK] at ev
    subst ev
    clear hLK
    have hbs := hb.size
    have ⟨⟨zR, cR, dR⟩, fR, gR⟩ := hR
    have ⟨⟨zA, cA, dA⟩, fA, gA⟩ := hA
    have HR := Lib.hid hR
    have HA := Lib.hid hA
    have HP := Lib.hid hp
    by_cases hlt : k < xss.length
    · obtain ⟨b, off, a', cap', rfl, hbl, hc, hr⟩ := (HX.out.below hb).row k hlt
      have k1 : (k : Int) < (xss.length : Int) := by omega
      have hrl := hr.len
      have hrt := row_tot (xss := xss) hlt
      have hrow : (rowL xss k).length ≤ 1048576 := by have := HS.out; omega
      have HRD := Lib.hid hr
      have HT : Hid (xss.take (k+1) = xss.take k ++ [rowL xss k]) := take_snocR hlt
      have HTL : Hid ((xss.take k).length = k) := by rw [Hid, List.length_take]; omega
      have HNR : Hid (∀ j, j < (rowL xss k).length → (∀ i, i < j → 0 ≤ nth (rowL xss k) i) → addB (totI (rowL xss k) j) (nth (rowL xss k) j) = false → adB xss = false) := fun j hj => ad_no_num hlt hj
      have HNM : Hid (addB (matS xss k) (totR (rowL xss k)) = false → adB xss = false) := ad_no_row hlt
      have HNZ : Hid (totR (rowL xss k) = 0 → adB xss = false) := fun h => by
        rw [← Bool.not_eq_true]; intro h2
        have := (adB_row h2 hlt).1; omega
      have HMN : Hid (matS xss (k+1) = matS xss k + totR (rowL xss k)) := rfl
      have HGD : Hid ((∀ j, j < (rowL xss k).length → 0 ≤ nth (rowL xss k) j) → 0 < totR (rowL xss k) → adTo xss (k+1)) := fun h1 h2 i hi => by
        by_cases e : i = k
        · rw [e]; exact ⟨h1, h2⟩
        · exact HAD.out i (by omega)
      obtain ⟨R, hR9⟩ : ∃ R, R = rowL xss k := ⟨_, rfl⟩
      rw [← hR9] at hc hrl hrow HRD HT HNR HNM HNZ HMN HGD
      obtain ⟨M, hM9⟩ : ∃ M, M = matS xss k := ⟨_, rfl⟩
      rw [← hM9] at hm0 hm1 HA cA HNM HMN
      clear hr hrt hR9 hM9 hR hA hp HAD
      obtain ⟨W1, hW1⟩ : ∃ x : World, x = wr := ⟨_, rfl⟩
      subst hW1
      go_wp2_with fail
      go_loopw [18] (fun i wr => ∃ (j : Nat) (u : Value), j ≤ R.length ∧ i = .int .i64 j ∧ Hid (∀ i, i < j → 0 ≤ nth R i) ∧ 0 ≤ totI R j ∧ totI R j ≤ 12 ∧ Var2 wr W1.heap.size (.int .i64 (totI R j)) u ∧ OwnI wr (W1.heap.size + 1) u (R.take j) ∧ Below W1.heap.size W1 wr) (fun i _ => R.length - (intOf i).toNat)
      case atStart => exact ⟨0, .slice none 0 0, Nat.zero_le _, rfl, fun j hj => by omega, by simp [totI], by simp [totI], Var2.new W1 _ _ _, by rw [List.take_zero]; exact OwnI.nil _ _, (by repeat (first | exact Below.refl _ _ | assumption | refine Below.alloc ?_ (by first | exact Nat.le_refl _ | (simp only [World.size_alloc, World.size_setCell, World.size_drew]; omega) | omega) _ | refine Below.setCell ?_ (by first | exact Nat.le_refl _ | (simp only [World.size_alloc, World.size_setCell, World.size_drew]; omega) | omega) _ | refine Below.drew ?_))⟩
      case round =>
        obtain ⟨j, u, hj, rfl, HNN, ht0, ht1, hQ, ho, hbq⟩ := hrel
        have hbqs := hbq.size
        have ⟨⟨zQ, cQ, dQ⟩, fQ, gQ⟩ := hQ
        have hR2 := HR.out.below hbq
        have hA2 := HA.out.below hbq
        have ⟨⟨zR2, cR2, dR2⟩, fR2, gR2⟩ := hR2
        have ⟨⟨zA2, cA2, dA2⟩, fA2, gA2⟩ := hA2
        have HR2 := Lib.hid hR2
        have HA2 := Lib.hid hA2
        clear hR2 hA2
        by_cases hlt2 : j < R.length
        · obtain ⟨b2, off2, rfl, hbl2, hc2⟩ := (HRD.out.below hbq).cell j hlt2
          have j1 : (j : Int) < (R.length : Int) := by omega
          have htk : R.take (j+1) = R.take j ++ [nth R j] := by
            rw [List.take_succ_eq_append_getElem hlt2, nth_get _ _ hlt2]
          have HTK := Lib.hid htk
          have hlj : (R.take j).length ≤ 1048576 := by rw [List.length_take]; omega
          have HTI : Hid (totI R (j+1) = totI R j + nth R j) := rfl
          have HNF := Lib.hid (HNR.out j hlt2 HNN.out)
          obtain ⟨Z, hZ⟩ : ∃ Z, Z = nth R j := ⟨_, rfl⟩
          have HZ := Lib.hid hZ
          rw [← hZ] at hc2 HTK HTI HNF
          obtain ⟨S, hS⟩ : ∃ S, S = totI R j := ⟨_, rfl⟩
          rw [← hS] at ht0 ht1 cQ hQ HTI HNF
          have HQ := Lib.hid hQ
          have HO := Lib.hid ho
          have hPut := iPut_any W1.heap.size S Z u (R.take j) wr HQ.out ⟨ht0, ht1⟩ HO.out hlj
          have HPUT := Lib.hid hPut
          clear htk hZ hS hQ ho hPut
          cases had : addB S Z
          · have H := HNF.out had
            have HF := Lib.hid had
            have HH := Lib.hid H
            clear had H
            go_wp2_with fail
            refine HPUT.out.mono ?_
            rintro e w5 ⟨rfl, v5, hv5, ho5, hb5⟩
            rw [HF.out]
            have b5 : Below W1.heap.size W1 w5 := hbq.trans hb5
            have hR5 := HR.out.below b5
            have hA5 := HA.out.below b5
            have ⟨⟨zR5, cR5, dR5⟩, fR5, gR5⟩ := hR5
            have ⟨⟨zA5, cA5, dA5⟩, fA5, gA5⟩ := hA5
            have bw5 := hb.trans (b5.mono hbs)
            clear hv5 ho5 hb5
            go_wp2_with fail
            have hR7 := hR5.set (.int .i64 M) (.slice av LK cv)
            have b7 := (bw5.setCell (p := ⟨w.heap.size, 0, none⟩) (Nat.le_refl _) (.int .i64 M)).setCell (p := ⟨w.heap.size, 1, none⟩) (Nat.le_refl _) (.slice av LK cv)
            refine bodyPost_ret (v := .tuple #[.agg #[.int .i64 M, .slice av LK cv], .bool false]) (by have ⟨⟨_, q1, q2⟩, _, _⟩ := hR7; simp [results, Try.results139, go_sem, q1, q2]) rfl ?_
            exact ⟨M, av, LK, cv, by rw [HH.out], (by intro h; rw [HH.out] at h; cases h), b7⟩
          · have hge := addB_iff.1 had
            have HF := Lib.hid had
            have HV := Lib.hid (add_ok had)
            clear had HNF
            go_wp2_with fail
            refine HPUT.out.mono ?_
            rintro e w5 ⟨rfl, v5, hv5, ho5, hb5⟩
            rw [HF.out]
            rw [HV.out] at hv5
            have b5 : Below W1.heap.size W1 w5 := hbq.trans hb5
            go_wp2_with fail
            go_roundw
            case rel =>
              refine ⟨j + 1, v5, by omega, by go_num, fun i hi => ?_, by rw [HTI.out]; omega, by rw [HTI.out]; omega, by rw [HTI.out]; exact hv5, by rw [HTK.out]; exact ho5, b5⟩
              by_cases e : i = j
              · rw [e, ← HZ.out]; omega
              · exact HNN.out i (by omega)
            case measure => simp [intOf]; omega
        · obtain rfl : j = R.length := by omega
          have HTR : Hid (totI R R.length = totR R) := rfl
          rw [HTR.out] at ht0 ht1 cQ hQ
          rw [List.take_length] at ho
          obtain ⟨au, cu, rfl⟩ := ho.form
          have HO := Lib.hid ho
          have HP2 := Lib.hid (HP.out.below hbq (Nat.le_refl _))
          obtain ⟨S, hS⟩ : ∃ S, S = totR R := ⟨_, rfl⟩
          have HSS := Lib.hid hS
          rw [← hS] at ht0 ht1 cQ hQ HNM HNZ HMN HGD
          have HQ := Lib.hid hQ
          have hlk : (xss.take k).length ≤ 1048576 := by rw [HTL.out]; have := HS.out; omega
          have bwq := hb.trans (hbq.mono hbs)
          clear hS hQ ho
          by_cases hz : S = 0
          · have hzz : (S == 0) = true := by simp [hz]
            have HH := Lib.hid (HNZ.out hz)
            clear hz
            go_wp2_with fail
            have hR7 := HR2.out.set (.int .i64 M) (.slice av LK cv)
            have b7 := (bwq.setCell (p := ⟨w.heap.size, 0, none⟩) (Nat.le_refl _) (.int .i64 M)).setCell (p := ⟨w.heap.size, 1, none⟩) (Nat.le_refl _) (.slice av LK cv)
            refine bodyPost_ret (v := .tuple #[.agg #[.int .i64 M, .slice av LK cv], .bool false]) (by have ⟨⟨_, q1, q2⟩, _, _⟩ := hR7; simp [results, Try.results139, go_sem, q1, q2]) rfl ?_
            exact ⟨M, av, LK, cv, by rw [HH.out], (by intro h; rw [HH.out] at h; cases h), b7⟩
          · have hzz : (S == 0) = false := by simp [hz]
            have hPut := iPutS_any (w.heap.size + 1) M S (.slice av LK cv) vl (xss.take k) R au cu (w.heap.size + 2) (W1.heap.size + 1) wr HA2.out ⟨hm0, hm1⟩ HP2.out HO.out (by omega) (by omega) (by omega) (fun c e => by have := HP.out.blk.1 c e; omega) (fun i hi c e => by have := HP.out.blk.2 i hi c e; omega) hlk
            rw [← HSS.out] at hPut
            have HPUT := Lib.hid hPut
            clear hPut
            cases had : addB M S
            · have HF := Lib.hid had
              have HH := Lib.hid (HNM.out had)
              clear had hz
              go_wp2_with fail
              refine HPUT.out.mono ?_
              rintro e w5 ⟨rfl, v5, hv5, ho5, hb5⟩
              rw [HF.out]
              have ⟨⟨zA5, cA5, dA5⟩, fA5, gA5⟩ := hv5
              have hR5 : Var2 w5 w.heap.size (.int .i64 0) (.slice none 0 0) := ⟨⟨by have := hb5.size; omega, (hb5.cell (p := ⟨w.heap.size, 0, none⟩) (show w.heap.size < w.heap.size + 1 by omega)).trans cR2, (hb5.cell (p := ⟨w.heap.size, 1, none⟩) (show w.heap.size < w.heap.size + 1 by omega)).trans dR2⟩, (hb5.frozen (p := ⟨w.heap.size, 0, none⟩) (show w.heap.size < w.heap.size + 1 by omega)).trans fR2, (hb5.frozen (p := ⟨w.heap.size, 1, none⟩) (show w.heap.size < w.heap.size + 1 by omega)).trans gR2⟩
              have ⟨⟨zR5, cR5, dR5⟩, fR5, gR5⟩ := hR5
              have bw5 := bwq.trans (hb5.mono (by omega : w.heap.size ≤ w.heap.size + 1))
              obtain ⟨D, hD⟩ : ∃ D, D = addV M S := ⟨_, rfl⟩
              rw [← hD] at cA5
              obtain ⟨a5, c5, e5⟩ := ho5.form
              obtain ⟨L5, hL5⟩ : ∃ L5, L5 = (xss.take k ++ [R]).length := ⟨_, rfl⟩
              rw [← hL5] at e5
              rw [e5] at dA5
              clear hL5 e5
              clear hv5 ho5 hb5 hD
              go_wp2_with fail
              have hR7 := hR5.set (.int .i64 D) (.slice a5 L5 c5)
              have b7 := (bw5.setCell (p := ⟨w.heap.size, 0, none⟩) (Nat.le_refl _) (.int .i64 D)).setCell (p := ⟨w.heap.size, 1, none⟩) (Nat.le_refl _) (.slice a5 L5 c5)
              refine bodyPost_ret (v := .tuple #[.agg #[.int .i64 D, .slice a5 L5 c5], .bool false]) (by have ⟨⟨_, q1, q2⟩, _, _⟩ := hR7; simp [results, Try.results139, go_sem, q1, q2]) rfl ?_
              exact ⟨D, a5, L5, c5, by rw [HH.out], (by intro h; rw [HH.out] at h; cases h), b7⟩
            · have hge := addB_iff.1 had
              have HF := Lib.hid had
              have HV := Lib.hid (add_ok had)
              clear had
              go_wp2_with fail
              refine HPUT.out.mono ?_
              rintro e w5 ⟨rfl, v5, hv5, ho5, hb5⟩
              rw [HF.out]
              rw [HV.out] at hv5
              have hR5 : Var2 w5 w.heap.size (.int .i64 0) (.slice none 0 0) := ⟨⟨by have := hb5.size; omega, (hb5.cell (p := ⟨w.heap.size, 0, none⟩) (show w.heap.size < w.heap.size + 1 by omega)).trans cR2, (hb5.cell (p := ⟨w.heap.size, 1, none⟩) (show w.heap.size < w.heap.size + 1 by omega)).trans dR2⟩, (hb5.frozen (p := ⟨w.heap.size, 0, none⟩) (show w.heap.size < w.heap.size + 1 by omega)).trans fR2, (hb5.frozen (p := ⟨w.heap.size, 1, none⟩) (show w.heap.size < w.heap.size + 1 by omega)).trans gR2⟩
              have bw5 := bwq.trans (hb5.mono (by omega : w.heap.size ≤ w.heap.size + 1))
              have HG2 := Lib.hid (HGD.out HNN.out (by omega))
              go_wp2_with fail
              go_roundw
              case rel => exact ⟨k + 1, v5, _, by omega, by go_num, HG2.out, by rw [HMN.out]; omega, by rw [HMN.out]; omega, hR5, by rw [HMN.out]; exact hv5, by rw [HT.out]; exact ho5, bw5⟩
              case measure => simp [intOf]; omega
    · obtain rfl : k = xss.length := by omega
      have HH : Hid (adB xss = true) := adB_iff.2 ⟨HAD.out, hm1⟩
      obtain ⟨M, hM9⟩ : ∃ M, M = matS xss xss.length := ⟨_, rfl⟩
      have HM := Lib.hid hM9
      rw [← hM9] at hm0 hm1 HA cA
      clear hM9 hR hA hp
      go_wp2_with fail
      have hR7 := HR.out.set (.int .i64 M) (.slice av LK cv)
      have b7 := (hb.setCell (p := ⟨w.heap.size, 0, none⟩) (Nat.le_refl _) (.int .i64 M)).setCell (p := ⟨w.heap.size, 1, none⟩) (Nat.le_refl _) (.slice av LK cv)
      refine bodyPost_ret (v := .tuple #[.agg #[.int .i64 M, .slice av LK cv], .bool true]) (by have ⟨⟨_, q1, q2⟩, _, _⟩ := hR7; simp [results, Try.results139, go_sem, q1, q2]) rfl ?_
      refine ⟨M, av, LK, cv, by rw [HH.out], fun _ => ⟨HM.out, vl, ?_⟩, b7⟩
      have h := HP.out
      rw [List.take_length] at h
      have hset : ∀ (p : Addr) (u : Value) (w9 : World), p.block = w.heap.size → SumP w9 (w.heap.size + 2) (.slice av LK cv) vl xss → SumP (w9.setCell p u) (w.heap.size + 2) (.slice av LK cv) vl xss := fun p u w9 e h =>
        ⟨ownsRow_setCell_below h.own (by rw [e]; omega) u, h.vlen, fun k hk => (h.row k hk).setBelow (by rw [e]; omega) u, h.apart, h.pair⟩
      exact (hset _ _ _ rfl (hset _ _ _ rfl h)).mono (by omega)

set_option maxRecDepth 100000 in
theorem isUpper_any (a : Option Addr) (xss : List (List Int)) (cap : Nat) (w : World) (hx : RdC w a xss) :
    Calls Try.prog 140 #[.agg #[.slice a xss.length cap]] w fun e w' => e = .returned (.bool (upB xss)) ∧ Below w.heap.size w w' := by
  have hlen := hx.rd.len
  have HX := Lib.hid hx
  have b1 : Below w.heap.size w (w.alloc (.cells #[.slice a xss.length cap] 39)) := (by repeat (first | exact Below.refl _ _ | assumption | refine Below.alloc ?_ (by first | exact Nat.le_refl _ | (simp only [World.size_alloc, World.size_setCell, World.size_drew]; omega) | omega) _ | refine Below.setCell ?_ (by first | exact Nat.le_refl _ | (simp only [World.size_alloc, World.size_setCell, World.size_drew]; omega) | omega) _ | refine Below.drew ?_))
  clear hx
  go_enter Try.func140, Try.ntmps140
  go_wp2_with fail
  go_loop [10] (fun i => ∃ k : Nat, k ≤ xss.length ∧ i = .int .i64 k ∧ Hid (∀ j, j < k → (rowL xss j).length = xss.length ∧ ∀ q, q < j → atM xss j q = 0)) (fun i => xss.length - (intOf i).toNat)
  case atStart => exact ⟨0, Nat.zero_le _, rfl, fun j hj => by omega⟩
  case round =>
    obtain ⟨k, hk, rfl, HA⟩ := hrel
    by_cases hlt : k < xss.length
    · obtain ⟨b, off, a', cap', rfl, hbl, hc, hr, hcp⟩ := (HX.out.below b1).row hlt
      have k1 : (k : Int) < (xss.length : Int) := by omega
      by_cases hq : (rowL xss k).length = xss.length
      · have hqq : (((rowL xss k).length : Int) != (xss.length : Int)) = false := by simp [hq]
        have HQ := Lib.hid hq
        obtain ⟨b2, off2, rfl, hbl2, hc2⟩ := hr.cell 0 (by omega)
        have HR := Lib.hid hr
        have k2 : k ≤ cap' := by omega
        have k3 : k ≤ (rowL xss k).length := by omega
        have hrl := hr.len
        clear hq hr hc2
        go_wp2_with fail
        go_loop [25] (fun i => ∃ q : Nat, q ≤ k ∧ i = .int .i64 q ∧ Hid (∀ j, j < q → atM xss k j = 0)) (fun i => k - (intOf i).toNat)
        case atStart => exact ⟨0, Nat.zero_le _, rfl, fun j hj => by omega⟩
        case round =>
          obtain ⟨q, hq2, rfl, HU⟩ := hrel
          by_cases hlt2 : q < k
          · obtain ⟨b3, off3, e3, hbl3, hc3⟩ := HR.out.cell q (by omega)
            simp only [Option.some.injEq, Addr.mk.injEq, and_true] at e3
            obtain ⟨rfl, rfl⟩ := e3
            have q1 : (q : Int) < (k : Int) := by omega
            by_cases hz : nth (rowL xss k) q = 0
            · have hzz : (nth (rowL xss k) q != 0) = false := by simp [hz]
              have HZ : Hid (atM xss k q = 0) := hz
              clear hz
              go_wp2_with fail
              go_round
              case rel =>
                refine ⟨q + 1, by omega, by go_num, fun j hj => ?_⟩
                by_cases e : j = q
                · rw [e]; exact HZ.out
                · exact HU.out j (by omega)
              case measure => simp [intOf]; omega
            · have hzz : (nth (rowL xss k) q != 0) = true := by simp [hz]
              have H : Hid (upB xss = false) := by
                rw [Hid, ← Bool.not_eq_true, upB_iff]
                intro h
                exact hz ((h k hlt).2 q hlt2)
              clear hz
              go_wp2_with fail
              go_ret
              exact ⟨ret_bool H.out.symm, (by repeat (first | exact Below.refl _ _ | assumption | refine Below.alloc ?_ (by first | exact Nat.le_refl _ | (simp only [World.size_alloc, World.size_setCell, World.size_drew]; omega) | omega) _ | refine Below.setCell ?_ (by first | exact Nat.le_refl _ | (simp only [World.size_alloc, World.size_setCell, World.size_drew]; omega) | omega) _ | refine Below.drew ?_))⟩
          · obtain rfl : q = k := by omega
            go_wp2_with fail
            go_round
            case rel =>
              refine ⟨q + 1, by omega, by go_num, fun j hj => ?_⟩
              by_cases e : j = q
              · rw [e]; exact ⟨HQ.out, HU.out⟩
              · exact HA.out j (by omega)
            case measure => simp [intOf]; omega
      · have hqq : (((rowL xss k).length : Int) != (xss.length : Int)) = true := by simp; omega
        have H : Hid (upB xss = false) := by
          rw [Hid, ← Bool.not_eq_true, upB_iff]
          intro h
          exact hq (h k hlt).1
        clear hq hr
        go_wp2_with fail
        go_ret
        exact ⟨ret_bool H.out.symm, (by repeat (first | exact Below.refl _ _ | assumption | refine Below.alloc ?_ (by first | exact Nat.le_refl _ | (simp only [World.size_alloc, World.size_setCell, World.size_drew]; omega) | omega) _ | refine Below.setCell ?_ (by first | exact Nat.le_refl _ | (simp only [World.size_alloc, World.size_setCell, World.size_drew]; omega) | omega) _ | refine Below.drew ?_))⟩
    · obtain rfl : k = xss.length := by omega
      have H : Hid (upB xss = true) := upB_iff.2 HA.out
      go_wp2_with fail
      go_ret
      exact ⟨ret_bool H.out.symm, (by repeat (first | exact Below.refl _ _ | assumption | refine Below.alloc ?_ (by first | exact Nat.le_refl _ | (simp only [World.size_alloc, World.size_setCell, World.size_drew]; omega) | omega) _ | refine Below.setCell ?_ (by first | exact Nat.le_refl _ | (simp only [World.size_alloc, World.size_setCell, World.size_drew]; omega) | omega) _ | refine Below.drew ?_))⟩

def colF (xss : List (List Int)) (k q : Nat) (a b : Nat) : Int := if b < k ∨ (b = k ∧ a < q) then atM xss b a else 0
theorem colF_end {xss : List (List Int)} {n : Nat} : sqM (colF xss n 0) n n = sqM (fun a b => atM xss b a) n n :=
  sqM_congr (fun a ha b hb => by rw [colF, if_pos (.inl hb)])
theorem colF_next {xss : List (List Int)} {n k : Nat} : sqM (colF xss k n) n n = sqM (colF xss (k+1) 0) n n :=
  sqM_congr (fun a ha b hb => by
    rw [colF, colF]
    by_cases h : b < k + 1
    · rw [if_pos (by omega), if_pos (.inl h)]
    · rw [if_neg (by omega), if_neg (by omega)])
theorem colF_zero {xss : List (List Int)} {n : Nat} : sqM (fun _ _ => 0) n n = sqM (colF xss 0 0) n n :=
  sqM_congr (fun a ha b hb => by rw [colF, if_neg (by omega)])
theorem colF_step {xss : List (List Int)} {n k q : Nat} (hk : k < n) (hq : q < n) : setM (sqM (colF xss k q) n n) q k (atM xss k q) = sqM (colF xss k (q+1)) n n := by
  rw [setM_sq hq hk]
  refine sqM_congr (fun a ha b hb => ?_)
  rw [colF, colF]
  by_cases h : a = q ∧ b = k
  · obtain ⟨rfl, rfl⟩ := h
    rw [if_pos ⟨rfl, rfl⟩, if_pos (.inr ⟨rfl, by omega⟩)]
  · rw [if_neg h]
    by_cases h2 : b < k ∨ (b = k ∧ a < q)
    · rw [if_pos h2, if_pos (by omega)]
    · rw [if_neg h2, if_neg (by omega)]
set_option maxRecDepth 100000 in
set_option maxHeartbeats 1000000 in
theorem columnsOf_any (a : Option Addr) (xss : List (List Int)) (cap : Nat) (w : World) (hx : RdS w a xss) (h12 : xss.length ≤ 12) (hl : ∀ k, k < xss.length → (rowL xss k).length = xss.length) :
    Calls Try.prog 141 #[.agg #[.slice a xss.length cap]] w fun e w' => ∃ g vl, e = .returned (.slice (some ⟨g, 0, none⟩) xss.length xss.length) ∧ RowsP w' w.heap.size (.slice (some ⟨g, 0, none⟩) xss.length xss.length) vl (colsL xss) ∧ Below w.heap.size w w' := by
  have hlen := hx.len
  have HX := Lib.hid hx
  have HL := Lib.hid hl
  clear hx hl
  go_enter Try.func141, Try.ntmps141
  go_wp2_with fail
  refine (zeroRows_any xss.length _ h12).mono ?_
  rintro e w1 ⟨g, vl0, rfl, hro0, hb0⟩
  have b1 : Below w.heap.size w w1 := Below.trans (by repeat (first | exact Below.refl _ _ | assumption | refine Below.alloc ?_ (by first | exact Nat.le_refl _ | (simp only [World.size_alloc, World.size_setCell, World.size_drew]; omega) | omega) _ | refine Below.setCell ?_ (by first | exact Nat.le_refl _ | (simp only [World.size_alloc, World.size_setCell, World.size_drew]; omega) | omega) _ | refine Below.drew ?_)) (hb0.mono (by first | (simp only [World.size_alloc, World.size_setCell, World.size_drew]; omega) | omega))
  have hro1 := hro0.mono (B' := w.heap.size) (by simp)
  rw [colF_zero (xss := xss)] at hro1
  have hc0 := (hb0.cell (p := ⟨w.heap.size, 0, none⟩) (by simp)).trans (show _ = some (Value.slice a xss.length cap) by simp)
  have hs1 := b1.size
  obtain ⟨N, hN⟩ : ∃ N, N = xss.length := ⟨_, rfl⟩
  have HN := Lib.hid hN
  rw [← hN] at hlen h12 hro1 hc0 ⊢
  have HRO := Lib.hid hro1
  clear hro0 hro1 hb0 hN
  go_wp2_with fail
  go_loopw [15] (fun i wr => ∃ (k : Nat) (vl : List Value), k ≤ N ∧ i = .int .i64 k ∧ RowsP wr w.heap.size (.slice (some ⟨g, 0, none⟩) N N) vl (sqM (colF xss k 0) N N) ∧ Below w.heap.size w wr) (fun i _ => N - (intOf i).toNat)
  case atStart => exact ⟨0, _, Nat.zero_le _, rfl, HRO.out, b1⟩
  case round =>
    obtain ⟨k, vl, hk, rfl, hro, hb⟩ := hrel
    have hbs := hb.size
    have HR := Lib.hid hro
    clear hro
    by_cases hlt : k < N
    · obtain ⟨b, off, a', cap', rfl, hbl, hc, hr⟩ := HX.out.row k (by rw [← HN.out]; exact hlt)
      have hrn := HL.out k (by rw [← HN.out]; exact hlt)
      rw [← HN.out] at hrn
      obtain ⟨b2, off2, rfl, hbl2, hc2⟩ := hr.cell 0 (by omega)
      rw [hrn] at hc
      have hc1 := (hb.cell (p := ⟨b, off + k, none⟩) hbl).trans hc
      have HRN := Lib.hid hrn
      have HRD := Lib.hid hr
      have hbl1 : b < wr.heap.size := by omega
      have k1 : (k : Int) < (N : Int) := by omega
      clear hrn hr hc2 hc
      go_wp2_with fail
      go_loopw [22] (fun i wq => ∃ (q : Nat) (vl : List Value), q ≤ N ∧ i = .int .i64 q ∧ RowsP wq w.heap.size (.slice (some ⟨g, 0, none⟩) N N) vl (sqM (colF xss k q) N N) ∧ Below w.heap.size w wq) (fun i _ => N - (intOf i).toNat)
      case atStart => exact ⟨0, _, Nat.zero_le _, rfl, HR.out, hb⟩
      case round =>
        obtain ⟨q, vl2, hq, rfl, hro2, hb2⟩ := hrel
        by_cases hlt2 : q < N
        · obtain ⟨b3, off3, e3, hbl3, hc3⟩ := (HRD.out.below hb2).cell q (by rw [HRN.out]; exact hlt2)
          simp only [Option.some.injEq, Addr.mk.injEq, and_true] at e3
          obtain ⟨rfl, rfl⟩ := e3
          obtain ⟨g4, e4, hg4, hg5, hc4, hf4⟩ := hro2.outer (k := q) (by rw [sqM_len]; exact hlt2)
          simp only [Option.some.injEq, Addr.mk.injEq, and_true] at e4
          subst e4
          obtain ⟨g6, c6, e6, hg6, hg7, hc6, hf6, hnew⟩ := hro2.num (i := q) (j := k) (by rw [sqM_len]; exact hlt2) (by rw [sqM_rlen hlt2]; exact hlt)
          have hn2 := hnew (atM xss k q)
          rw [colF_step hlt hlt2] at hn2
          rw [e6, sqM_rlen hlt2] at hc4
          have HN2 := Lib.hid hn2
          have q1 : (q : Int) < (N : Int) := by omega
          have hat : nth (rowL xss k) q = atM xss k q := rfl
          rw [hat] at hc3
          have b7 := hb2.setCell (p := ⟨g6, k, none⟩) hg6 (.int .i64 (atM xss k q))
          clear hro2 hnew hn2 hat e6
          go_wp2_with fail
          go_roundw
          case rel => exact ⟨q + 1, vl2, by omega, by go_num, HN2.out, b7⟩
          case measure => simp [intOf]; omega
        · obtain rfl : q = N := by omega
          rw [colF_next] at hro2
          go_wp2_with fail
          go_roundw
          case rel => exact ⟨k + 1, _, by omega, by go_num, hro2, hb2⟩
          case measure => simp [intOf]; omega
    · obtain rfl : k = N := by omega
      have HR2 := HR.out
      rw [colF_end] at HR2
      have HE : Hid (colsL xss = sqM (fun a b => atM xss b a) k k) := by rw [Hid, colsL_sq, ← HN.out]
      have HR3 := Lib.hid HR2
      clear HR2
      go_wp2_with fail
      go_ret
      exact ⟨g, vl, by rw [← HN.out]; rfl, by rw [HE.out, ← HN.out]; exact HR3.out, hb⟩

theorem totS_sq {f : Nat → Nat → Int} {n m : Nat} : ∀ {k : Nat}, k ≤ n → totS (sqM f n m) k = k * m
  | 0, _ => by simp [totS]
  | k+1, h => by rw [totS, totS_sq (by omega), sqM_rlen (by omega), Nat.succ_mul]
theorem sq_small {f : Nat → Nat → Int} {n : Nat} (h : n ≤ 13) : (sqM f n n).length + totS (sqM f n n) (sqM f n n).length ≤ 1048576 := by
  rw [sqM_len, totS_sq (Nat.le_refl _)]
  have := Nat.mul_le_mul h h
  omega
set_option maxRecDepth 100000 in
set_option maxHeartbeats 1000000 in
theorem rowsOf_any (a : Option Addr) (xss : List (List Int)) (cap : Nat) (w : World) (hx : RdC w a xss) (hs : xss.length + totS xss xss.length ≤ 1048576) :
    Calls Try.prog 124 #[.agg #[.slice a xss.length cap]] w fun e w' => ∃ s va vn vc, e = .returned (.tuple #[.agg #[.int .i64 s, .slice va vn vc], .bool (mxB xss)]) ∧ (mxB xss = true → s = matS xss xss.length ∧ ∃ vl, SumP w' w.heap.size (.slice va vn vc) vl xss) ∧ Below w.heap.size w w' := by
  have hlen := hx.rd.len
  have HX := Lib.hid hx
  have HS := Lib.hid hs
  clear hx hs
  go_enter Try.func124, Try.ntmps124
  obtain ⟨W0, hW0⟩ : ∃ x : World, x = (w.alloc (.cells #[.slice a xss.length cap] 39)).alloc (.cells #[.int .i64 0, .slice none 0 0] 113) := ⟨_, rfl⟩
  have HW0 := Lib.hid hW0
  have b0 : Below w.heap.size w W0 := by rw [hW0]; exact (by repeat (first | exact Below.refl _ _ | assumption | refine Below.alloc ?_ (by first | exact Nat.le_refl _ | (simp only [World.size_alloc, World.size_setCell, World.size_drew]; omega) | omega) _ | refine Below.setCell ?_ (by first | exact Nat.le_refl _ | (simp only [World.size_alloc, World.size_setCell, World.size_drew]; omega) | omega) _ | refine Below.drew ?_))
  have c0 : W0.cell? ⟨w.heap.size, 0, none⟩ = some (.slice a xss.length cap) := by rw [hW0]; simp
  have hR0 : Var2 W0 (w.heap.size + 1) (.int .i64 0) (.slice none 0 0) := by
    have h := Var2.new (w.alloc (.cells #[.slice a xss.length cap] 39)) (.int .i64 0) (.slice none 0 0) 113
    rw [World.size_alloc] at h
    rw [hW0]; exact h
  have hz0 : w.heap.size + 2 = W0.heap.size := by rw [hW0]; simp
  have HCALL := Lib.hid (iAddUp_any a xss cap W0 (HX.out.below b0).rd HS.out)
  rw [hW0] at HCALL
  clear hW0
  go_wp2_with fail
  refine HCALL.out.mono ?_
  rintro e w1 ⟨s, va, vn, vc, rfl, hok, hb1⟩
  rw [← HW0.out] at hok hb1
  have b1 : Below w.heap.size w w1 := b0.trans (hb1.mono (by omega))
  have c1 := (hb1.cell (p := ⟨w.heap.size, 0, none⟩) (show w.heap.size < W0.heap.size by omega)).trans c0
  have hR1 := hR0.below hb1
  have hs1 := hb1.size
  clear hb1 b0 c0 hR0 HCALL HW0
  obtain ⟨W2, hW2⟩ : ∃ x : World, x = w1.alloc (.cells #[.int .i64 s, .slice va vn vc] 113) := ⟨_, rfl⟩
  have HW2 := Lib.hid hW2
  have bb2 : Below w1.heap.size w1 W2 := by rw [hW2]; exact (by repeat (first | exact Below.refl _ _ | assumption | refine Below.alloc ?_ (by first | exact Nat.le_refl _ | (simp only [World.size_alloc, World.size_setCell, World.size_drew]; omega) | omega) _ | refine Below.setCell ?_ (by first | exact Nat.le_refl _ | (simp only [World.size_alloc, World.size_setCell, World.size_drew]; omega) | omega) _ | refine Below.drew ?_))
  have b2 : Below w.heap.size w W2 := b1.trans (bb2.mono b1.size)
  have hA2 : Box2 W2 w1.heap.size (.int .i64 s) (.slice va vn vc) := by rw [hW2]; exact Box2.new _ _ _ _
  have hR2 := hR1.below bb2
  have c2 := (bb2.cell (p := ⟨w.heap.size, 0, none⟩) (show w.heap.size < w1.heap.size by omega)).trans c1
  have hs2 : w1.heap.size ≤ W2.heap.size := bb2.size
  clear hR1 c1
  subst hW2
  have ⟨zA2, cA2, dA2⟩ := hA2
  have ⟨⟨zR2, cR2, dR2⟩, fR2, gR2⟩ := hR2
  cases had : adB xss
  · have HF := Lib.hid had
    have HM : Hid (mxB xss = false) := by simp [Hid, mxB, had]
    clear had hok
    go_wp2_with fail
    have hR7 := hR2.set (.int .i64 s) (.slice va vn vc)
    have b7 := (b2.setCell (p := ⟨w.heap.size + 1, 0, none⟩) (by simp) (.int .i64 s)).setCell (p := ⟨w.heap.size + 1, 1, none⟩) (by simp) (.slice va vn vc)
    refine bodyPost_ret (v := .tuple #[.agg #[.int .i64 s, .slice va vn vc], .bool false]) (by have ⟨⟨_, q1, q2⟩, _, _⟩ := hR7; simp [results, Try.results124, go_sem, q1, q2]) rfl ?_
    exact ⟨s, va, vn, vc, by rw [HM.out], (by intro h; rw [HM.out] at h; cases h), b7⟩
  · have HF := Lib.hid had
    have HOK := Lib.hid (hok had)
    have h12 := adB_small had
    clear had hok
    have HUC := Lib.hid (isUpper_any a xss cap _ (HX.out.below b2))
    cases hup : upB xss
    · have HU := Lib.hid hup
      have HM : Hid (mxB xss = false) := by simp [Hid, mxB, hup]
      clear hup
      go_wp2_with fail
      refine HUC.out.mono ?_
      rintro e w3 ⟨rfl, hb3⟩
      rw [HU.out]
      have hA3 := hA2.below hb3
      have hR3 := hR2.below hb3
      have b3 := b2.trans (hb3.mono b2.size)
      have ⟨zA3, cA3, dA3⟩ := hA3
      have ⟨⟨zR3, cR3, dR3⟩, fR3, gR3⟩ := hR3
      clear hb3
      go_wp2_with fail
      have hR7 := hR3.set (.int .i64 s) (.slice va vn vc)
      have b7 := (b3.setCell (p := ⟨w.heap.size + 1, 0, none⟩) (by simp) (.int .i64 s)).setCell (p := ⟨w.heap.size + 1, 1, none⟩) (by simp) (.slice va vn vc)
      refine bodyPost_ret (v := .tuple #[.agg #[.int .i64 s, .slice va vn vc], .bool false]) (by have ⟨⟨_, q1, q2⟩, _, _⟩ := hR7; simp [results, Try.results124, go_sem, q1, q2]) rfl ?_
      exact ⟨s, va, vn, vc, by rw [HM.out], (by intro h; rw [HM.out] at h; cases h), b7⟩
    · have HU := Lib.hid hup
      have HL : Hid (∀ k, k < xss.length → (rowL xss k).length = xss.length) := fun k hk => (upB_iff.1 hup k hk).1
      have HM : Hid (mxB xss = adB (colsL xss)) := by rw [Hid, mxB, HF.out, hup]; rfl
      clear hup
      go_wp2_with fail
      refine HUC.out.mono ?_
      rintro e w3 ⟨rfl, hb3⟩
      rw [HU.out]
      have hA3 := hA2.below hb3
      have hR3 := hR2.below hb3
      have b3 := b2.trans (hb3.mono b2.size)
      have hs3 : w1.heap.size ≤ w3.heap.size := by have := hb3.size; simp at this; omega
      have c3 := (hb3.cell (p := ⟨w.heap.size, 0, none⟩) (by simp; omega)).trans c2
      have ⟨zA3, cA3, dA3⟩ := hA3
      have ⟨⟨zR3, cR3, dR3⟩, fR3, gR3⟩ := hR3
      have bb3 : Below w1.heap.size w1 w3 := bb2.trans (hb3.mono (by simp))
      clear hb3
      go_wp2_with fail
      refine (columnsOf_any a xss cap _ (HX.out.below b3).rd h12 HL.out).mono ?_
      rintro e w4 ⟨g, vlc, rfl, hro, hb4⟩
      have hA4 := hA3.below hb4
      have hR4 := hR3.below hb4
      have b4 := b3.trans (hb4.mono b3.size)
      have hs4 : w3.heap.size ≤ w4.heap.size := hb4.size
      have ⟨zA4, cA4, dA4⟩ := hA4
      have ⟨⟨zR4, cR4, dR4⟩, fR4, gR4⟩ := hR4
      have hAU := iAddUp_any (some ⟨g, 0, none⟩) (colsL xss) xss.length w4 hro.o.rd (by rw [colsL_sq]; exact sq_small (by omega))
      rw [← HM.out, colsL_len] at hAU
      have HAU := Lib.hid hAU
      have bb4 : Below w1.heap.size w1 w4 := bb3.trans (hb4.mono hs3)
      clear hb4 hro hAU
      go_wp2_with fail
      refine HAU.out.mono ?_
      rintro e w5 ⟨s5, va5, vn5, vc5, rfl, _, hb5⟩
      have hA5 := hA4.below hb5
      have hR5 := hR4.below hb5
      have b5 := b4.trans (hb5.mono b4.size)
      have bb5 : Below w1.heap.size w1 w5 := bb4.trans (hb5.mono (by omega))
      have ⟨zA5, cA5, dA5⟩ := hA5
      have ⟨⟨zR5, cR5, dR5⟩, fR5, gR5⟩ := hR5
      have hs5 : w4.heap.size ≤ w5.heap.size := hb5.size
      clear hb5
      go_wp2_with fail
      have hR7 := hR5.set (.int .i64 s) (.slice va vn vc)
      have b7 := (b5.setCell (p := ⟨w.heap.size + 1, 0, none⟩) (by simp) (.int .i64 s)).setCell (p := ⟨w.heap.size + 1, 1, none⟩) (by simp) (.slice va vn vc)
      refine bodyPost_ret (v := .tuple #[.agg #[.int .i64 s, .slice va vn vc], .bool (mxB xss)]) (by have ⟨⟨_, q1, q2⟩, _, _⟩ := hR7; simp [results, Try.results124, go_sem, q1, q2]) rfl ?_
      refine ⟨s, va, vn, vc, rfl, fun _ => ⟨HOK.out.1, ?_⟩, b7⟩
      obtain ⟨vl, hp⟩ := HOK.out.2
      have hp5 := hp.below bb5 (Nat.le_refl _)
      have hset : ∀ (p : Addr) (u : Value) (w9 : World), p.block = w.heap.size + 1 → SumP w9 W0.heap.size (.slice va vn vc) vl xss → SumP (w9.setCell p u) W0.heap.size (.slice va vn vc) vl xss := fun p u w9 e h =>
        ⟨ownsRow_setCell_below h.own (by rw [e]; omega) u, h.vlen, fun k hk => (h.row k hk).setBelow (by rw [e]; omega) u, h.apart, h.pair⟩
      exact ⟨vl, (hset _ _ _ rfl (hset _ _ _ rfl hp5)).mono (by omega)⟩

theorem iIsMatrix_any (a : Option Addr) (xss : List (List Int)) (cap : Nat) (w : World) (hx : RdC w a xss) (hs : xss.length + totS xss xss.length ≤ 1048576) :
    Calls Try.prog 142 #[.agg #[.slice a xss.length cap]] w fun e w' => e = .returned (.bool (mxB xss)) ∧ Below w.heap.size w w' := by
  have hlen := hx.rd.len
  go_enter Try.func142, Try.ntmps142
  go_wp2_with fail
  refine (rowsOf_any _ _ _ _ (hx.below (by repeat (first | exact Below.refl _ _ | assumption | refine Below.alloc ?_ (by first | exact Nat.le_refl _ | (simp only [World.size_alloc, World.size_setCell, World.size_drew]; omega) | omega) _ | refine Below.setCell ?_ (by first | exact Nat.le_refl _ | (simp only [World.size_alloc, World.size_setCell, World.size_drew]; omega) | omega) _ | refine Below.drew ?_))) hs).mono ?_
  rintro e w1 ⟨s, va, vn, vc, rfl, _, hb⟩
  have b1 : Below w.heap.size w w1 := Below.trans (by repeat (first | exact Below.refl _ _ | assumption | refine Below.alloc ?_ (by first | exact Nat.le_refl _ | (simp only [World.size_alloc, World.size_setCell, World.size_drew]; omega) | omega) _ | refine Below.setCell ?_ (by first | exact Nat.le_refl _ | (simp only [World.size_alloc, World.size_setCell, World.size_drew]; omega) | omega) _ | refine Below.drew ?_)) (hb.mono (by first | (simp only [World.size_alloc, World.size_setCell, World.size_drew]; omega) | omega))
  clear hb
  go_wp2_with fail
  go_ret
  exact ⟨rfl, b1.alloc b1.size _⟩

set_option maxRecDepth 100000 in
theorem iTopMx_any (a : Option Addr) (xss : List (List Int)) (cap : Nat) (w : World) (hx : RdC w a xss) (hs : xss.length + totS xss xss.length ≤ 1048576) :
    Calls Try.prog 125 #[.agg #[.slice a xss.length cap]] w fun e w' => e = .returned (.tuple #[.int .i64 (topV xss), .bool (topB xss)]) ∧ Below w.heap.size w w' := by
  have hlen := hx.rd.len
  have HX := Lib.hid hx
  have HCL := Lib.hid (fun W (h : RdC W a xss) => iIsMatrix_any a xss cap W h hs)
  cases hm : mxB xss
  · have HM := Lib.hid hm
    have H2 : Hid (topB xss = false) := by simp [Hid, topB, hm]
    have H1 : Hid (topV xss = 0) := by rw [Hid, topV, H2.out]; rfl
    clear hm
    go_enter Try.func125, Try.ntmps125
    go_wp2_with fail
    refine (HCL.out _ (hx.below (by repeat (first | exact Below.refl _ _ | assumption | refine Below.alloc ?_ (by first | exact Nat.le_refl _ | (simp only [World.size_alloc, World.size_setCell, World.size_drew]; omega) | omega) _ | refine Below.setCell ?_ (by first | exact Nat.le_refl _ | (simp only [World.size_alloc, World.size_setCell, World.size_drew]; omega) | omega) _ | refine Below.drew ?_)))).mono ?_
    rintro e w1 ⟨rfl, hb⟩
    rw [HM.out]
    have b1 : Below w.heap.size w w1 := Below.trans (by repeat (first | exact Below.refl _ _ | assumption | refine Below.alloc ?_ (by first | exact Nat.le_refl _ | (simp only [World.size_alloc, World.size_setCell, World.size_drew]; omega) | omega) _ | refine Below.setCell ?_ (by first | exact Nat.le_refl _ | (simp only [World.size_alloc, World.size_setCell, World.size_drew]; omega) | omega) _ | refine Below.drew ?_)) (hb.mono (by first | (simp only [World.size_alloc, World.size_setCell, World.size_drew]; omega) | omega))
    clear hb
    go_wp2_with fail
    go_ret2
    exact ⟨ret_ib' H1.out.symm H2.out.symm, b1⟩
  · have HM := Lib.hid hm
    have h12 := mxB_small hm
    clear hm
    by_cases h0 : xss.length = 0
    · have h00 : ((xss.length : Int) == 0) = true := by simp [h0]
      have H2 : Hid (topB xss = false) := by simp [Hid, topB, h0]
      have H1 : Hid (topV xss = 0) := by rw [Hid, topV, H2.out]; rfl
      clear h0
      go_enter Try.func125, Try.ntmps125
      go_wp2_with fail
      refine (HCL.out _ (hx.below (by repeat (first | exact Below.refl _ _ | assumption | refine Below.alloc ?_ (by first | exact Nat.le_refl _ | (simp only [World.size_alloc, World.size_setCell, World.size_drew]; omega) | omega) _ | refine Below.setCell ?_ (by first | exact Nat.le_refl _ | (simp only [World.size_alloc, World.size_setCell, World.size_drew]; omega) | omega) _ | refine Below.drew ?_)))).mono ?_
      rintro e w1 ⟨rfl, hb⟩
      rw [HM.out]
      have b1 : Below w.heap.size w w1 := Below.trans (by repeat (first | exact Below.refl _ _ | assumption | refine Below.alloc ?_ (by first | exact Nat.le_refl _ | (simp only [World.size_alloc, World.size_setCell, World.size_drew]; omega) | omega) _ | refine Below.setCell ?_ (by first | exact Nat.le_refl _ | (simp only [World.size_alloc, World.size_setCell, World.size_drew]; omega) | omega) _ | refine Below.drew ?_)) (hb.mono (by first | (simp only [World.size_alloc, World.size_setCell, World.size_drew]; omega) | omega))
      have hc0 := (hb.cell (p := ⟨w.heap.size, 0, none⟩) (by simp)).trans (show _ = some (Value.slice a xss.length cap) by simp)
      clear hb
      go_wp2_with fail
      go_ret2
      exact ⟨ret_ib' H1.out.symm H2.out.symm, b1⟩
    · have h00 : ((xss.length : Int) == 0) = false := by simp only [beq_eq_false_iff_ne, ne_eq]; omega
      have H2 : Hid (topB xss = true) := by simp only [Hid, topB, HM.out, Bool.true_and, decide_eq_true_eq]; exact h0
      have H1 : Hid (topV xss = ((topN xss : Nat) : Int)) := by rw [Hid, topV, H2.out]; rfl
      have hpos : 1 ≤ xss.length := by omega
      have htl := topN_lt HM.out (by omega)
      have HZ : Hid (∀ j, j < topN xss → atM xss j (xss.length - 1) = 0) := fun j hj => topN_zero hj
      have HNE := Lib.hid (topN_ne HM.out (by omega))
      obtain ⟨T, hT⟩ : ∃ T, T = topN xss := ⟨_, rfl⟩
      rw [← hT] at H1 htl HZ HNE
      clear h0 hT
      go_enter Try.func125, Try.ntmps125
      go_wp2_with fail
      refine (HCL.out _ (hx.below (by repeat (first | exact Below.refl _ _ | assumption | refine Below.alloc ?_ (by first | exact Nat.le_refl _ | (simp only [World.size_alloc, World.size_setCell, World.size_drew]; omega) | omega) _ | refine Below.setCell ?_ (by first | exact Nat.le_refl _ | (simp only [World.size_alloc, World.size_setCell, World.size_drew]; omega) | omega) _ | refine Below.drew ?_)))).mono ?_
      rintro e w1 ⟨rfl, hb⟩
      rw [HM.out]
      have b1 : Below w.heap.size w w1 := Below.trans (by repeat (first | exact Below.refl _ _ | assumption | refine Below.alloc ?_ (by first | exact Nat.le_refl _ | (simp only [World.size_alloc, World.size_setCell, World.size_drew]; omega) | omega) _ | refine Below.setCell ?_ (by first | exact Nat.le_refl _ | (simp only [World.size_alloc, World.size_setCell, World.size_drew]; omega) | omega) _ | refine Below.drew ?_)) (hb.mono (by first | (simp only [World.size_alloc, World.size_setCell, World.size_drew]; omega) | omega))
      have hc0 := (hb.cell (p := ⟨w.heap.size, 0, none⟩) (by simp)).trans (show _ = some (Value.slice a xss.length cap) by simp)
      have hcast : ((xss.length : Int) - 1) = ((xss.length - 1 : Nat) : Int) := by omega
      have hrow : ∀ (k : Nat) (W : World), k < xss.length → Below w.heap.size w W → ∃ b off b2 off2 cap', a = some ⟨b, off, none⟩ ∧ W.cell? ⟨b, off + k, none⟩ = some (.slice (some ⟨b2, off2, none⟩) xss.length cap') ∧ W.cell? ⟨b2, off2 + (xss.length - 1), none⟩ = some (.int .i64 (atM xss k (xss.length - 1))) ∧ b < W.heap.size ∧ b2 < W.heap.size := by
        intro k W hk hbW
        obtain ⟨b, off, a', cap', e1, hbl, hc, hr, _⟩ := (HX.out.below hbW).row hk
        have hl := mxB_len HM.out hk
        obtain ⟨b2, off2, e2, hbl2, hc2⟩ := hr.cell (xss.length - 1) (by omega)
        rw [hl, e2] at hc
        exact ⟨b, off, b2, off2, cap', e1, hc, hc2, hbl, hbl2⟩
      have HROW := Lib.hid hrow
      clear hb hx hrow
      go_wp2_with fail
      go_region
      all_goals
        have hdr : Below w.heap.size w (w1.drew) := b1.drew
        go_wp2_with fail
        go_loop [4] (fun i => ∃ k : Nat, k ≤ T ∧ i = .int .i64 k) (fun i => T + 1 - (intOf i).toNat)
        case atStart => exact ⟨0, Nat.zero_le _, rfl⟩
        case round =>
          obtain ⟨k, hk, rfl⟩ := hrel
          obtain ⟨b, off, b2, off2, cap', rfl, hc, hc2, hbl, hbl2⟩ := HROW.out k _ (by omega) hdr
          have k1 : (k : Int) < (xss.length : Int) := by omega
          by_cases hlt : k < T
          · have hz := HZ.out k hlt
            rw [hz] at hc2
            have hzz : ((0 : Int) == 0) = true := rfl
            clear hz
            go_wp2_with fail
            go_round
            case rel => exact ⟨k + 1, by omega, by go_num⟩
            case measure => simp [intOf]; omega
          · obtain rfl : k = T := by omega
            have hz := HNE.out
            obtain ⟨Z, hZ⟩ : ∃ Z, Z = atM xss k (xss.length - 1) := ⟨_, rfl⟩
            rw [← hZ] at hz hc2
            have hzz : (Z == 0) = false := by simp [hz]
            clear hz hZ
            go_wp2_with fail
            go_ret2
            exact ⟨ret_ib' H1.out.symm H2.out.symm, hdr⟩

theorem SumP.vn {w : World} {B n c : Nat} {a : Option Addr} {vl : List Value} {xss : List (List Int)} (h : SumP w B (.slice a n c) vl xss) : n = xss.length := by
  obtain ⟨a2, c2, e⟩ := h.form
  simp only [Value.slice.injEq] at e
  exact e.2.1

set_option maxRecDepth 100000 in
theorem numbersOf_any (s : Int) (va : Option Addr) (vc B : Nat) (vl : List Value) (xss : List (List Int)) (w : World) (hp : SumP w B (.slice va xss.length vc) vl xss) (hB : B ≤ w.heap.size) (h63 : xss.length ≤ 1048576) :
    Calls Try.prog 126 #[.agg #[.int .i64 s, .slice va xss.length vc]] w fun e w' => ∃ g, e = .returned (.slice (some ⟨g, 0, none⟩) xss.length xss.length) ∧ RowsP w' B (.slice (some ⟨g, 0, none⟩) xss.length xss.length) vl xss ∧ Below w.heap.size w w' := by
  obtain ⟨j0, hj0, hy0, hy1, hy2⟩ := info_parts infoRow0
  have HP := Lib.hid hp
  have hvl := hp.vlen
  clear hp
  obtain ⟨N, hN⟩ : ∃ N, N = xss.length := ⟨_, rfl⟩
  have HN := Lib.hid hN
  rw [← hN] at h63 hvl ⊢
  have HVL := Lib.hid hvl
  have HP2 : Hid (SumP w B (.slice va N vc) vl xss) := by rw [hN]; exact HP.out
  clear hN HP hvl
  go_enter Try.func126, Try.ntmps126
  go_wp2_with (
    at_make
    refine wpList_make_full _ rfl (.tmp 8) (.tmp 8) 37 rfl (w.heap.size + 1) 22 j0 (.slice none 0 0) 1 Try.underlying37 hj0 hy0 hy1 .i64 .i64 _ _ N rfl rfl rfl rfl (by rw [hy2]; omega) (by unfold maxLen; omega) (by simp) ?_
    intro w1 hown hgrow
    have bw1 : Below w.heap.size w w1 := Below.trans (B := w.heap.size) ((Below.refl _ _).alloc (Nat.le_refl _) _) (below_grown_none hgrow (by simp))
    have hc1 : w1.cell? ⟨w.heap.size, 1, none⟩ = some (.slice va N vc) := hgrow.cell (by simp) (by simp)
    have hz1' : w.heap.size + 1 < w1.heap.size := by
      have := (World.ownsRow.lt hown (w.heap.size + 1) (by simp [Value.ownBlock])).2
      omega)
  have HO0 : Hid (w1.ownsRow (w.heap.size + 1) 22 1 (.slice (some ⟨w.heap.size + 1, 0, none⟩) N N) N (nVal vl N 0)) := by
    rw [Hid, nVal_zero]
    simpa [Value.cells, toList_madeCells_one] using hown
  clear hown hgrow
  go_loopw [13] (fun i wr => ∃ k : Nat, k ≤ N ∧ i = .int .i64 k ∧ wr.ownsRow (w.heap.size + 1) 22 1 (.slice (some ⟨w.heap.size + 1, 0, none⟩) N N) N (nVal vl N k) ∧ Below w.heap.size w wr ∧ w.heap.size + 1 < wr.heap.size) (fun i _ => N - (intOf i).toNat)
  case atStart => exact ⟨0, Nat.zero_le _, rfl, HO0.out, bw1, hz1'⟩
  case round =>
    obtain ⟨k, hk, rfl, hown2, hb, hgz⟩ := hrel
    have hbs := hb.size
    by_cases hlt : k < N
    · have k1 : (k : Int) < (N : Int) := by omega
      have hpr := HP2.out.below hb (Nat.le_refl _)
      obtain ⟨g0, rfl, hg0, hcA, hcB⟩ := hpr.at (k := k) (by rw [← HN.out]; exact hlt)
      obtain ⟨ar, cr, er⟩ := (hpr.row k (by rw [← HN.out]; exact hlt)).form
      rw [er] at hcB
      obtain ⟨T, hT⟩ : ∃ T, T = totR (rowL xss k) := ⟨_, rfl⟩
      rw [← hT] at hcA
      have hst := (World.ownsRow.stored hown2 k (valAt vl k)).1
      rw [nVal_step hlt, er] at hst
      have hst := ownsRow_bel hst (w' := (wr.setCell ⟨w.heap.size + 1, k, none⟩ (.slice ar (rowL xss k).length cr)).alloc (.cells #[.int .i64 T, .slice ar (rowL xss k).length cr] 118)) ((Below.refl _ _).alloc (Nat.le_refl _) _) (Nat.le_refl _)
      have hcc := World.ownsRow.cellAt hown2 k (by omega)
      have hfr := World.ownsRow.frozenAt hown2 k
      have hcc' : ∃ u, wr.cell? ⟨w.heap.size + 1, k, none⟩ = some u := by
        rw [hcc]
        exact ⟨_, List.getElem?_eq_getElem (by rw [nVal_len]; omega)⟩
      obtain ⟨u, hu⟩ := hcc'
      have Hst := Lib.hid hst
      have b3 : Below w.heap.size w ((wr.setCell ⟨w.heap.size + 1, k, none⟩ (.slice ar (rowL xss k).length cr)).alloc (.cells #[.int .i64 T, .slice ar (rowL xss k).length cr] 118)) := (hb.setCell (by simp) _).alloc (by simpa using hbs) _
      clear hst hcc hown2 hpr er hT
      go_wp2_with fail
      go_roundw
      case rel => exact ⟨k + 1, by omega, by go_num, Hst.out, b3, by simp; omega⟩
      case measure => simp [intOf]; omega
    · obtain rfl : k = N := by omega
      rw [nVal_end HVL.out] at hown2
      have HO := Lib.hid hown2
      have hpr := Lib.hid (HP2.out.below hb (Nat.le_refl _))
      have HLT := Lib.hid HP2.out.blk
      clear hown2
      go_wp2_with fail
      go_ret
      refine ⟨w.heap.size + 1, rfl, ⟨⟨?_, hpr.out.row, fun i hi c hc h => ?_⟩, hpr.out.pair⟩, hb⟩
      · rw [← HN.out]
        refine ⟨HO.out.1, ?_⟩
        rcases HO.out.2 with hn | ⟨g, cap, cur, e, hb', rest⟩
        · exact .inl hn
        · exact .inr ⟨g, cap, cur, e, by omega, rest⟩
      · have := HLT.out.2 i hi c hc
        simp only [Value.ownBlock, Option.some.injEq] at h
        omega

set_option maxRecDepth 100000 in
set_option maxHeartbeats 1000000 in
theorem iShrink_any (a : Option Addr) (xss : List (List Int)) (cap : Nat) (w : World) (hx : RdC w a xss) (hs : xss.length + totS xss xss.length ≤ 1048576) :
    Calls Try.prog 96 #[.agg #[.slice a xss.length cap]] w fun e w' => ∃ a0 c0 vl, e = .returned (.tuple #[.agg #[.slice a0 (shL xss).length c0], .int .i64 (topV xss), .bool (topB xss)]) ∧ RowsP w' w.heap.size (.slice a0 (shL xss).length c0) vl (shL xss) ∧ Below w.heap.size w w' := by
  have hlen := hx.rd.len
  have hV := Var1.new (w.alloc (.cells #[.slice a xss.length cap] 39)) (.slice none 0 0) 39
  have hb0 : Below w.heap.size w ((w.alloc (.cells #[.slice a xss.length cap] 39)).alloc (.cells #[.slice none 0 0] 39)) := (by repeat (first | exact Below.refl _ _ | assumption | refine Below.alloc ?_ (by first | exact Nat.le_refl _ | (simp only [World.size_alloc, World.size_setCell, World.size_drew]; omega) | omega) _ | refine Below.setCell ?_ (by first | exact Nat.le_refl _ | (simp only [World.size_alloc, World.size_setCell, World.size_drew]; omega) | omega) _ | refine Below.drew ?_))
  rw [World.size_alloc] at hV
  have HCL := Lib.hid (fun W (h : RdC W a xss) => iTopMx_any a xss cap W h hs)
  cases hm : topB xss
  · have HM := Lib.hid hm
    have H1 : Hid (shL xss = []) := by simp [Hid, shL, hm]
    have H2 : Hid (topV xss = 0) := by rw [Hid, topV, hm]; rfl
    clear hm
    go_enter Try.func96, Try.ntmps96
    go_wp2_with fail
    refine (HCL.out _ (hx.below hb0)).mono ?_
    rintro e w1 ⟨rfl, hb⟩
    rw [HM.out, H2.out]
    have b1 : Below w.heap.size w w1 := hb0.trans (hb.mono (by simp; omega))
    have hV1 := hV.below hb
    have ⟨⟨zV, cV⟩, fV⟩ := hV1
    clear hb hV
    go_wp2_with fail
    have hV2 := hV1.set (.slice none 0 0)
    have b2 := b1.setCell (p := ⟨w.heap.size + 1, 0, none⟩) (by simp) (.slice none 0 0)
    refine bodyPost_ret (v := .tuple #[.agg #[.slice none 0 0], .int .i64 0, .bool false]) (by have ⟨⟨_, q1⟩, _⟩ := hV2; simp [results, Try.results96, go_sem, q1]) rfl ?_
    exact ⟨none, 0, [], by rw [H1.out, H2.out]; rfl, by rw [H1.out]; exact RowsP.nil _ _, b2⟩
  · have HM := Lib.hid hm
    have ⟨hmx, hpos⟩ := topB_mx hm
    have h12 := mxB_small hmx
    have HMX := Lib.hid hmx
    have htl := topN_lt hmx hpos
    have H2 : Hid (topV xss = ((topN xss : Nat) : Int)) := by rw [Hid, topV, hm]; rfl
    have HE := Lib.hid (mx_eta hmx)
    have HNB := Lib.hid (mxB_num hmx htl (j := xss.length - 1) (by omega))
    have HSH : Hid (shL xss = if totR (rowL xss (topN xss)) = 1 then sqM (shF (decF (atM xss) xss.length (topN xss)) xss.length (topN xss)) (xss.length - 1) (xss.length - 1) else sqM (decF (atM xss) xss.length (topN xss)) xss.length xss.length) := by rw [Hid, shL, if_pos hm, shF_dec]
    have HRC := Lib.hid (fun W (h : RdC W a xss) => rowsOf_any a xss cap W h hs)
    obtain ⟨T, hT⟩ : ∃ T, T = topN xss := ⟨_, rfl⟩
    have HT := Lib.hid hT
    rw [← hT] at htl H2 HSH HNB
    have HX := Lib.hid hx
    clear hm hmx hx hT hs
    go_enter Try.func96, Try.ntmps96
    go_wp2_with fail
    refine (HCL.out _ (HX.out.below hb0)).mono ?_
    rintro e w1 ⟨rfl, hb⟩
    rw [HM.out, H2.out]
    have b1 : Below w.heap.size w w1 := hb0.trans (hb.mono (by simp; omega))
    have hV1 := hV.below hb
    have hc1 := (hb.cell (p := ⟨w.heap.size, 0, none⟩) (by simp; omega)).trans (show _ = some (Value.slice a xss.length cap) by simp)
    have hz1 : w.heap.size + 2 ≤ w1.heap.size := by have := hb.size; simp at this; omega
    clear hb hV hb0 HCL
    go_wp2_with fail
    refine (HRC.out _ (HX.out.below b1)).mono ?_
    rintro e w2 ⟨s, va, vn, vc, rfl, hok, hb2⟩
    rw [HMX.out]
    obtain ⟨vl, hp⟩ := (hok HMX.out).2
    obtain rfl := hp.vn
    have b2 := b1.trans (hb2.mono b1.size)
    have hV2 := (hV1.below hb2).alloc (.cells #[.int .i64 s, .slice va xss.length vc] 113)
    have b2' := b2.alloc b2.size (.cells #[.int .i64 s, .slice va xss.length vc] 113)
    have hP2 := Box2.new w2 (.int .i64 s) (.slice va xss.length vc) 113
    have hz2 : w.heap.size + 2 ≤ w2.heap.size := by have := hb2.size; omega
    have hp2 := hp.below ((Below.refl _ _).alloc (Nat.le_refl _) (.cells #[.int .i64 s, .slice va xss.length vc] 113)) (Nat.le_refl _)
    have HNUM := Lib.hid (numbersOf_any s va vc _ vl xss (w2.alloc (.cells #[.int .i64 s, .slice va xss.length vc] 113)) hp2 (by simp; have := hb2.size; omega) (by omega))
    have HP2 := Lib.hid hp2
    have HV2 := Lib.hid hV2
    have ⟨zP2, cP2, dP2⟩ := hP2
    have HPB := Lib.hid hp.blk
    clear hb2 hok hp hV1 HRC b2 hp2 hV2 hc1
    go_wp2_with fail
    refine HNUM.out.mono ?_
    rintro e w3 ⟨g, rfl, hro, hb3⟩
    have b3 := b2'.trans (hb3.mono b2'.size)
    have hP3 := hP2.below hb3
    have HV3 := Lib.hid (HV2.out.below hb3)
    have hp3 := HP2.out.below hb3 (Nat.le_refl _)
    obtain ⟨gp, rfl, hgp, hcs, _⟩ := hp3.at (k := T) htl
    have hvT := hp3.apart T htl
    have hro2 := hro.mono (B' := w.heap.size + 2) hz1
    obtain ⟨g6, c6, e6, hg6, hg7, hc6, hf6, hnew⟩ := hro2.num (i := T) (j := xss.length - 1) htl (by rw [mxB_len HMX.out htl]; omega)
    have hgne : gp ≠ g6 := fun h => hvT g6 (by rw [e6]; rfl) (by rw [h]; rfl)
    obtain ⟨g4, e4, hg4, hg5, hc4, hf4⟩ := hro2.outer (k := T) htl
    simp only [Option.some.injEq, Addr.mk.injEq, and_true] at e4
    subst e4
    have hg7ne : g6 ≠ w2.heap.size := fun h => by
      have h1 := HPB.out.2 T htl g6 (by rw [e6]; rfl)
      omega
    rw [e6, mxB_len HMX.out htl] at hc4
    have hset := hnew (atM xss T (xss.length - 1) - 1)
    have hmat : setM xss T (xss.length - 1) (atM xss T (xss.length - 1) - 1) = sqM (decF (atM xss) xss.length T) xss.length xss.length := by
      have h := setM_sq (f := atM xss) (n := xss.length) (m := xss.length) (i := T) (j := xss.length - 1) (x := atM xss T (xss.length - 1) - 1) htl (by omega)
      rw [← HE.out] at h
      rw [h]
      exact sqM_congr (fun p hp q hq => by rw [decF])
    rw [hmat] at hset
    have b4 := b3.setCell (p := ⟨g6, xss.length - 1, none⟩) (show w.heap.size ≤ g6 by omega) (.int .i64 (atM xss T (xss.length - 1) - 1))
    have hV4 := HV3.out.other (p := ⟨g6, xss.length - 1, none⟩) (.int .i64 (atM xss T (xss.length - 1) - 1)) (show w.heap.size + 1 ≠ g6 by omega)
    have hP4 := hP3.set (p := ⟨g6, xss.length - 1, none⟩) (.int .i64 (atM xss T (xss.length - 1) - 1)) (show w2.heap.size ≠ g6 by omega)
    have ⟨zP3, cP3, dP3⟩ := hP3
    have ⟨hz0, hz9⟩ := HNB.out
    obtain ⟨Z, hZ⟩ : ∃ Z, Z = atM xss T (xss.length - 1) := ⟨_, rfl⟩
    rw [← hZ] at hc6 hset b4 hV4 hP4 hz0 hz9
    obtain ⟨S, hS⟩ : ∃ S, S = totR (rowL xss T) := ⟨_, rfl⟩
    rw [← hS] at hcs HSH
    obtain ⟨N, hN⟩ : ∃ N, N = xss.length := ⟨_, rfl⟩
    have HN := Lib.hid hN
    rw [← hN] at hlen h12 htl hpos hc6 hf6 hc4 hset b4 hV4 hP4 HSH dP3 ⊢
    have hcast : ((N : Int) - 1) = ((N - 1 : Nat) : Int) := by omega
    have hN1 : N - 1 < N := by omega
    have HS4 := Lib.hid hset
    have HV4 := Lib.hid hV4
    have ⟨zP4, cP4, dP4⟩ := hP4
    have hcs4 : (w3.setCell ⟨g6, N - 1, none⟩ (.int .i64 (Z - 1))).cell? ⟨gp, T * 2, none⟩ = some (.int .i64 S) := (World.cell?_setCell_other _ _ _ _ (by intro h9; exact hgne (congrArg Addr.block h9).symm)).trans hcs
    clear hro hro2 hnew hvT hp3 hP3 hb3 HNUM hP2 hset hV4 e6 hmat hZ hS hN cP2 dP2 hP4
    have hws : w.heap.size + 2 ≤ (w3.setCell ⟨g6, N - 1, none⟩ (.int .i64 (Z - 1))).heap.size := by have := b3.size; simp; omega
    by_cases hS1 : S = 1
    · have hSS : (S == 1) = true := by simp [hS1]
      rw [if_pos hS1] at HSH
      have HTK := Lib.hid (takeOut_any g N (w.heap.size + 2) N T vl (decF (atM xss) N T) _ HS4.out htl hws h12 (Nat.le_refl _) (by omega))
      clear hS1
      go_wp2_with fail
      refine HTK.out.mono ?_
      rintro e w5 ⟨ul, rfl, hro5, hb5⟩
      have b5 := b4.trans (hb5.mono (by omega : w.heap.size ≤ w.heap.size + 2))
      have hV5 : Var1 w5 (w.heap.size + 1) (.slice none 0 0) := ⟨⟨by have := hb5.size; omega, (hb5.cell (p := ⟨w.heap.size + 1, 0, none⟩) (show w.heap.size + 1 < w.heap.size + 2 by omega)).trans HV4.out.1.2⟩, (hb5.frozen (p := ⟨w.heap.size + 1, 0, none⟩) (show w.heap.size + 1 < w.heap.size + 2 by omega)).trans HV4.out.2⟩
      have ⟨⟨zV5, cV5⟩, fV5⟩ := hV5
      have HR5 := Lib.hid hro5
      have HV5 := Lib.hid hV5
      clear hro5 hb5 hV5 HTK
      go_wp2_with fail
      have hV6 := HV5.out.set (.slice (some ⟨g, 0, none⟩) (N - 1) N)
      have b6 := b5.setCell (p := ⟨w.heap.size + 1, 0, none⟩) (by simp) (.slice (some ⟨g, 0, none⟩) (N - 1) N)
      refine bodyPost_ret (v := .tuple #[.agg #[.slice (some ⟨g, 0, none⟩) (N - 1) N], .int .i64 (T : Int), .bool true]) (by have ⟨⟨_, q1⟩, _⟩ := hV6; simp [results, Try.results96, go_sem, q1]) rfl ?_
      exact ⟨some ⟨g, 0, none⟩, N, ul, by rw [HSH.out, H2.out, sqM_len], by rw [HSH.out, sqM_len]; exact (HR5.out.setBelow (show w.heap.size + 1 < w.heap.size + 2 by omega) _).mono (by omega), b6⟩
    · have hSS : (S == 1) = false := by simp [hS1]
      rw [if_neg hS1] at HSH
      have ⟨⟨zV5, cV5⟩, fV5⟩ := HV4.out
      clear hS1
      go_wp2_with fail
      have hV6 := HV4.out.set (.slice (some ⟨g, 0, none⟩) N N)
      have b6 := b4.setCell (p := ⟨w.heap.size + 1, 0, none⟩) (by simp) (.slice (some ⟨g, 0, none⟩) N N)
      refine bodyPost_ret (v := .tuple #[.agg #[.slice (some ⟨g, 0, none⟩) N N], .int .i64 (T : Int), .bool true]) (by have ⟨⟨_, q1⟩, _⟩ := hV6; simp [results, Try.results96, go_sem, q1]) rfl ?_
      exact ⟨some ⟨g, 0, none⟩, N, vl, by rw [HSH.out, H2.out, sqM_len], by rw [HSH.out, sqM_len]; exact (HS4.out.setBelow (show w.heap.size + 1 < w.heap.size + 2 by omega) _).mono (by omega), b6⟩

def smV (xss : List (List Int)) : Int := if mxB xss then matS xss xss.length else 0

theorem iSumMx_any (a : Option Addr) (xss : List (List Int)) (cap : Nat) (w : World) (hx : RdC w a xss) (hs : xss.length + totS xss xss.length ≤ 1048576) :
    Calls Try.prog 95 #[.agg #[.slice a xss.length cap]] w fun e w' => e = .returned (.tuple #[.int .i64 (smV xss), .bool (mxB xss)]) ∧ Below w.heap.size w w' := by
  have hlen := hx.rd.len
  have HCL := Lib.hid (fun W (h : RdC W a xss) => rowsOf_any a xss cap W h hs)
  cases hm : mxB xss
  · have HM := Lib.hid hm
    have H1 : Hid (smV xss = 0) := by simp [Hid, smV, hm]
    clear hm
    go_enter Try.func95, Try.ntmps95
    go_wp2_with fail
    refine (HCL.out _ (hx.below (by repeat (first | exact Below.refl _ _ | assumption | refine Below.alloc ?_ (by first | exact Nat.le_refl _ | (simp only [World.size_alloc, World.size_setCell, World.size_drew]; omega) | omega) _ | refine Below.setCell ?_ (by first | exact Nat.le_refl _ | (simp only [World.size_alloc, World.size_setCell, World.size_drew]; omega) | omega) _ | refine Below.drew ?_)))).mono ?_
    rintro e w1 ⟨s, va, vn, vc, rfl, _, hb⟩
    rw [HM.out]
    have b1 : Below w.heap.size w w1 := Below.trans (by repeat (first | exact Below.refl _ _ | assumption | refine Below.alloc ?_ (by first | exact Nat.le_refl _ | (simp only [World.size_alloc, World.size_setCell, World.size_drew]; omega) | omega) _ | refine Below.setCell ?_ (by first | exact Nat.le_refl _ | (simp only [World.size_alloc, World.size_setCell, World.size_drew]; omega) | omega) _ | refine Below.drew ?_)) (hb.mono (by first | (simp only [World.size_alloc, World.size_setCell, World.size_drew]; omega) | omega))
    clear hb
    go_wp2_with fail
    go_ret2
    exact ⟨ret_ib' H1.out.symm rfl, b1.alloc b1.size _⟩
  · have HM := Lib.hid hm
    have H1 : Hid (smV xss = matS xss xss.length) := by simp [Hid, smV, hm]
    clear hm
    go_enter Try.func95, Try.ntmps95
    go_wp2_with fail
    refine (HCL.out _ (hx.below (by repeat (first | exact Below.refl _ _ | assumption | refine Below.alloc ?_ (by first | exact Nat.le_refl _ | (simp only [World.size_alloc, World.size_setCell, World.size_drew]; omega) | omega) _ | refine Below.setCell ?_ (by first | exact Nat.le_refl _ | (simp only [World.size_alloc, World.size_setCell, World.size_drew]; omega) | omega) _ | refine Below.drew ?_)))).mono ?_
    rintro e w1 ⟨s, va, vn, vc, rfl, hok, hb⟩
    have hok2 := Lib.hid (hok HM.out).1
    rw [HM.out]
    have b1 : Below w.heap.size w w1 := Below.trans (by repeat (first | exact Below.refl _ _ | assumption | refine Below.alloc ?_ (by first | exact Nat.le_refl _ | (simp only [World.size_alloc, World.size_setCell, World.size_drew]; omega) | omega) _ | refine Below.setCell ?_ (by first | exact Nat.le_refl _ | (simp only [World.size_alloc, World.size_setCell, World.size_drew]; omega) | omega) _ | refine Below.drew ?_)) (hb.mono (by first | (simp only [World.size_alloc, World.size_setCell, World.size_drew]; omega) | omega))
    clear hb hok
    go_wp2_with fail
    go_ret2
    exact ⟨ret_ib' (by rw [H1.out, hok2.out]) rfl, b1.alloc b1.size _⟩

theorem asN_pos {xss : List (List Int)} (h : 0 < asN xss) : 0 < xss.length := by
  apply Nat.pos_of_ne_zero
  intro e
  have h1 : xss = [] := List.eq_nil_of_length_eq_zero e
  rw [h1] at h
  exact absurd h (by decide)
theorem rep_set (q : Nat) (x : Int) (l : List Int) : (List.replicate (q+1) (0:Int) ++ l).set q x = List.replicate q 0 ++ x :: l := by
  rw [List.replicate_succ', List.append_assoc, List.set_append_right _ _ (by simp)]
  simp
set_option maxRecDepth 100000 in
set_option maxHeartbeats 2000000 in
theorem iAscM_any (a : Option Addr) (xss : List (List Int)) (cap : Nat) (w : World) (hx : RdC w a xss) (hs : xss.length + totS xss xss.length ≤ 1048576) :
    Calls Try.prog 63 #[.agg #[.slice a xss.length cap]] w fun e w' => ∃ a0 c0, e = .returned (.tuple #[.slice a0 (amL xss).length c0, .bool (mxB xss)]) ∧ OwnI w' w.heap.size (.slice a0 (amL xss).length c0) (amL xss) ∧ Below w.heap.size w w' := by
  have hV := Var1.new w (.slice a xss.length cap) 39
  have hb0 : Below w.heap.size w (w.alloc (.cells #[.slice a xss.length cap] 39)) := (by repeat (first | exact Below.refl _ _ | assumption | refine Below.alloc ?_ (by first | exact Nat.le_refl _ | (simp only [World.size_alloc, World.size_setCell, World.size_drew]; omega) | omega) _ | refine Below.setCell ?_ (by first | exact Nat.le_refl _ | (simp only [World.size_alloc, World.size_setCell, World.size_drew]; omega) | omega) _ | refine Below.drew ?_))
  have ⟨⟨zV, cV⟩, fV⟩ := hV
  have HCL := Lib.hid (fun W (h : RdC W a xss) => iSumMx_any a xss cap W h hs)
  cases hm : mxB xss
  · have HM := Lib.hid hm
    have H1 : Hid (amL xss = []) := by simp [Hid, amL, hm]
    clear hm
    go_enter Try.func63, Try.ntmps63
    go_wp2_with fail
    refine (HCL.out _ (hx.below hb0)).mono ?_
    rintro e w1 ⟨rfl, hb⟩
    rw [HM.out]
    have b1 : Below w.heap.size w w1 := hb0.trans (hb.mono (by simp))
    clear hb
    go_wp2_with fail
    refine bodyPost_ret (v := .tuple #[.slice none 0 0, .bool false]) (by simp [results, Try.results63, go_sem]) rfl ?_
    exact ⟨none, 0, by rw [H1.out]; rfl, by rw [H1.out]; exact OwnI.nil _ _, b1⟩
  · have HM := Lib.hid hm
    have H1 : Hid (amL xss = asL xss) := by simp [Hid, amL, hm]
    have h12 : asN xss ≤ 12 := by have := of_mx hm; rw [asN]; omega
    have hlenL : (asL xss).length = asN xss := asF_len _ _
    have HL : Hid ((asL xss).length = asN xss) := hlenL
    have HS : Hid (smV xss = ((asN xss : Nat) : Int)) := by
      rw [Hid, smV, if_pos hm, asN]
      have := matS_nn (xss := xss) (k := xss.length) (fun j hj => by have := (adB_row (mxB_iff.1 hm).1 hj).1; omega)
      omega
    obtain ⟨i0, hi, hz0, hz1, hz2⟩ := info_parts infoInt
    obtain ⟨N, hN⟩ : ∃ N, N = asN xss := ⟨_, rfl⟩
    have HN := Lib.hid hN
    rw [← hN] at h12 HS HL
    clear hm hN hlenL
    go_enter Try.func63, Try.ntmps63
    go_wp2_with fail
    refine (HCL.out _ (hx.below hb0)).mono ?_
    rintro e w1 ⟨rfl, hb⟩
    rw [HM.out, HS.out]
    have b1 : Below w.heap.size w w1 := hb0.trans (hb.mono (by simp))
    have hV1 := hV.below hb
    have hz1' : w.heap.size + 1 ≤ w1.heap.size := by have := hb.size; simpa using this
    have ⟨⟨zV1, cV1⟩, fV1⟩ := hV1
    clear hb hV zV cV fV hb0 HCL
    go_wp2_with (at_make; refine wpList_make_full _ rfl (.tmp 15) (.tmp 15) 22 rfl (w.heap.size + 1) 3 i0 (.int .i64 0) 1 Try.underlying22 hi hz0 hz1 .i64 .i64 _ _ N rfl rfl rfl rfl (by rw [hz2]; omega) (by unfold maxLen; omega) hz1' ?_; intro w3 hown hgrow; have hV3 := hV1.kept hgrow (by simp); have b3 : Below w.heap.size w w3 := b1.trans (below_grown_none hgrow b1.size); have HO : Hid (OwnI w3 (w.heap.size + 1) (.slice (some ⟨w1.heap.size, 0, none⟩) N N) (List.replicate N 0)) := by (unfold Hid OwnI; rw [List.length_replicate]; simpa [Value.cells, toList_madeCells_one] using hown))
    have hG1 : w.heap.size + 1 ≤ w1.heap.size := hz1'
    have hx3 := hx.below b3
    clear hown hgrow hV1 zV1 cV1 fV1 b1 hz1' hx
    go_loopw [7] (fun i wr => ∃ (k : Nat) (cur : List (List Int)) (ac : Option Addr) (cc : Nat) (lst : List Int), i = .int .i64 ((k : Int) - 1) ∧ mxB cur = true ∧ cur.length + totS cur cur.length ≤ 1048576 ∧ Hid (asN cur = k) ∧ k + lst.length = N ∧ Hid (asF (asN cur) cur ++ lst = asL xss) ∧ OwnI wr (w.heap.size + 1) (.slice (some ⟨w1.heap.size, 0, none⟩) N N) (List.replicate k 0 ++ lst) ∧ Var1 wr w.heap.size (.slice ac cur.length cc) ∧ RdC wr ac cur ∧ Below w.heap.size w wr) (fun i _ => (intOf i + 1).toNat)
    case atStart => exact ⟨N, xss, a, cap, [], by go_num, HM.out, hs, HN.out.symm, by simp, by rw [Hid, List.append_nil]; rfl, by rw [List.append_nil]; exact HO.out, hV3, hx3, b3⟩
    case round =>
      clear hV3 b3 HO hs hx3
      obtain ⟨k, cur, ac, cc, lst, rfl, hmc, hsz, hk, hlen, heq, hown, hV, hr, hb⟩ := hrel
      have ⟨⟨zV, cV⟩, fV⟩ := hV
      have HO := Lib.hid hown
      cases k with
      | succ q =>
        have e1 : (((q + 1 : Nat) : Int) - 1) = (q : Int) := by omega
        rw [e1]
        have HT := Lib.hid (topB_of hmc (asN_pos (by rw [hk.out]; omega)))
        have HSH := Lib.hid (iShrink_any ac cur cc wr hr hsz)
        have HMC := Lib.hid hmc
        have HV := Lib.hid hV
        have hlt := (World.ownsRow.lt hown w1.heap.size (by simp [Value.ownBlock])).2
        clear hmc hsz hown hV hr
        go_wp2_with fail
        refine HSH.out.mono ?_
        rintro e w2 ⟨a0, c0, vl, rfl, hP, hb2⟩
        have hV2 := HV.out.below hb2
        have ⟨⟨zV2, cV2⟩, fV2⟩ := hV2
        have hV3 := hV2.set (.slice a0 (shL cur).length c0)
        have hO3 := (HO.out.below hb2 (Nat.le_refl _)).setBelow (p := ⟨w.heap.size, 0, none⟩) (by simp) (.slice a0 (shL cur).length c0)
        have hP3 := hP.setBelow (p := ⟨w.heap.size, 0, none⟩) zV (.slice a0 (shL cur).length c0)
        have ⟨hcc, hfr⟩ := (HO.out.below hb2 (Nat.le_refl _)).at' (i := q) (by simp; omega) (by simp; omega)
        have hput := (hO3.put (by simp; omega) q (topV cur)).1
        rw [rep_set] at hput
        have HPUT := Lib.hid hput
        have HV4 := Lib.hid (hV3.other (p := ⟨w1.heap.size, q, none⟩) (.int .i64 (topV cur)) (by simp; omega))
        have HP4 := Lib.hid (hP3.setBelow (p := ⟨w1.heap.size, q, none⟩) hlt (.int .i64 (topV cur)))
        have HB4 := Lib.hid (((hb.trans (hb2.mono hb.size)).setCell (p := ⟨w.heap.size, 0, none⟩) (by simp) (.slice a0 (shL cur).length c0)).setCell (p := ⟨w1.heap.size, q, none⟩) (by simp; omega) (.int .i64 (topV cur)))
        have hqN : q < N := by omega
        have hqN2 : (q : Int) < (N : Int) := by omega
        clear hV3 hO3 hP3 hput hP
        go_wp2_with fail
        go_roundw
        case rel => exact ⟨q, shL cur, a0, c0, topV cur :: lst, by go_num, (sh_mx HT.out).1, shL_len _, by have h1 := asN_step HT.out; have h2 := hk.out; unfold Hid; omega, by simp; omega, by rw [Hid, ← asF_step HT.out]; exact heq.out, HPUT.out, HV4.out, HP4.out.rdC, HB4.out⟩
        case measure => simp [intOf]
      | zero =>
        have hL : asL xss = lst := by
          rw [← heq.out, hk.out]; rfl
        have HL2 := Lib.hid hL
        have HLN : Hid (lst.length = N) := by unfold Hid; omega
        clear heq hr hmc hL
        go_wp2_with fail
        refine bodyPost_ret (v := .tuple #[.slice (some ⟨w1.heap.size, 0, none⟩) N N, .bool true]) (by simp [results, Try.results63, go_sem]) rfl ?_
        exact ⟨some ⟨w1.heap.size, 0, none⟩, N, by rw [H1.out, HL2.out, HLN.out], by rw [H1.out, HL2.out, HLN.out]; have h := HO.out.mono (B' := w.heap.size) (Nat.le_succ _); simpa using h, hb⟩

theorem iAscOrd_any (n : Int) (a : Option Addr) (xs : List Int) (cap : Nat) (w : World) (hn : -9223372036854775808 ≤ n ∧ n ≤ 9223372036854775807) (hx : Rd w a xs) :
    Calls Try.prog 30 #[.agg #[.int .i64 n, .slice a xs.length cap]] w (GotI w (aooL n xs) (isIv n xs)) := by
  have hlen := hx.len
  obtain ⟨W0, hW0⟩ : ∃ x : World, x = w.alloc (.cells #[.int .i64 n, .slice a xs.length cap] 28) := ⟨_, rfl⟩
  have bw0 : Below w.heap.size w W0 := by rw [hW0]; exact (Below.refl _ _).alloc (Nat.le_refl _) _
  have B0 : Box2 W0 w.heap.size (.int .i64 n) (.slice a xs.length cap) := by rw [hW0]; exact Box2.new w _ _ _
  have hx0 := hx.below bw0
  obtain ⟨g0, hg0⟩ : ∃ g, g = w.heap.size := ⟨_, rfl⟩
  have HC := Lib.hid (fun W (h : Rd W a xs) => iMxOrd_any n a xs cap W hn h)
  have HSZ := Lib.hid (moL_len n xs)
  cases hm : isIv n xs
  · have HL : Hid (aooL n xs = []) := by simp [Hid, aooL, hm]
    have HML : Hid (moL n xs = []) := by simp [Hid, moL, hm]
    rw [hm, HML.out] at HC
    clear hm hx
    go_enter Try.func30, Try.ntmps30
    go_wp2_with fail
    rw [← hW0]
    rw [← hg0] at B0 ⊢
    have ⟨zB0, cB0, dB0⟩ := B0
    clear hg0 hW0
    go_wp2_with fail
    refine (HC.out _ hx0).mono ?_
    rintro e w1 ⟨a1, c1, vl, rfl, hro, hb⟩
    have b1 := bw0.trans (hb.mono bw0.size)
    have b2 := b1.alloc b1.size (.cells #[.slice a1 ([] : List (List Int)).length c1] 39)
    clear cB0 dB0 hro
    go_wp2_with fail
    refine bodyPost_ret (v := .tuple #[.slice none 0 0, .bool false]) (by simp [results, Try.results30, go_sem]) rfl ?_
    exact gotI_no HL.out rfl b2
  · have HG := Lib.hid (mo_good hm)
    have HL : Hid (aooL n xs = amL (moL n xs)) := by rw [Hid, aooL, if_pos hm]
    rw [hm] at HC
    have HA := Lib.hid (fun W a0 c0 (h : RdC W a0 (moL n xs)) => iAscM_any a0 (moL n xs) c0 W h HSZ.out)
    rw [HG.out] at HA
    obtain ⟨L, hL⟩ : ∃ L, L = moL n xs := ⟨_, rfl⟩
    rw [← hL] at HC HA HL
    clear hm hx hL HSZ HG
    go_enter Try.func30, Try.ntmps30
    go_wp2_with fail
    rw [← hW0]
    rw [← hg0] at B0 ⊢
    have ⟨zB0, cB0, dB0⟩ := B0
    clear hg0 hW0
    go_wp2_with fail
    refine (HC.out _ hx0).mono ?_
    rintro e w1 ⟨a1, c1, vl, rfl, hro, hb⟩
    have b1 := bw0.trans (hb.mono bw0.size)
    have b2 := b1.alloc b1.size (.cells #[.slice a1 L.length c1] 39)
    have hrc := hro.rdC.below (show Below w1.heap.size w1 (w1.alloc (.cells #[.slice a1 L.length c1] 39)) from (Below.refl _ _).alloc (Nat.le_refl _) _)
    have HAA := Lib.hid (HA.out _ a1 c1 hrc)
    clear cB0 dB0 hro hrc
    go_wp2_with fail
    refine HAA.out.mono ?_
    rintro e w3 ⟨a3, c3, rfl, ho3, hb3⟩
    go_wp2_with fail
    refine bodyPost_ret (v := .tuple #[.slice a3 (amL L).length c3, .bool true]) (by simp [results, Try.results30, go_sem]) rfl ?_
    exact ⟨a3, c3, by rw [HL.out], by rw [HL.out]; exact ho3.mono b2.size, b2.trans (hb3.mono b2.size)⟩

theorem markIntS_any (a : Option Addr) (xs : List Int) (cap : Nat) (k : Int) (B : Nat) (w : World) (h0 : 0 ≤ k) (h1 : k ≤ 1099511627776) (hn : xs.length ≤ 1048576) (ho : OwnI w B (.slice a xs.length cap) xs) :
    Calls Try.prog 32 #[.slice a xs.length cap, .int .i64 k] w fun e w' => e = .returned (.int .i64 (k + xs.length)) ∧ OwnI w' B (.slice a xs.length cap) (marks k xs.length) ∧ w.grownBy w' (Value.slice a xs.length cap).ownBlock := by
  go_enter Try.func32, Try.ntmps32
  go_wp2_with fail
  go_loopw [1, 5] (fun k' i wr => ∃ j : Nat, j ≤ xs.length ∧ i = .int .i64 j ∧ k' = .int .i64 (k + j) ∧ wr.ownsRow B 3 1 (.slice a xs.length cap) xs.length ((marks k j ++ xs.drop j).map (Value.int .i64)) ∧ w.grownBy wr (Value.slice a xs.length cap).ownBlock) (fun _ i _ => xs.length - (intOf i).toNat)
  case atStart => exact ⟨0, Nat.zero_le _, rfl, by simp, by (have e : marks k 0 ++ xs.drop 0 = xs := by simp [marks]); rw [e]; exact ho, World.grownBy.refl _ _⟩
  case round =>
    obtain ⟨j, hj, rfl, rfl, hown, hg⟩ := hrel
    by_cases hlt : j < xs.length
    · obtain ⟨g, rfl⟩ : ∃ g, a = some ⟨g, 0, none⟩ := by
        rcases hown.2 with ⟨e, h⟩ | ⟨g, c, cur, e, _⟩
        · omega
        · simp only [Value.slice.injEq] at e
          exact ⟨g, e.1⟩
      have hst := World.ownsRow.stored hown j (.int .i64 (k + j))
      rw [mark_step k xs j hlt] at hst
      have hcc := World.ownsRow.cellAt hown j (by omega)
      have hfr := World.ownsRow.frozenAt hown j
      have hcc' : ∃ u, wr.cell? ⟨g, j, none⟩ = some u := by
        rw [hcc]
        exact ⟨_, List.getElem?_eq_getElem (by simp [marks_len]; omega)⟩
      obtain ⟨u, hu⟩ := hcc'
      have Hst := Lib.hid hst
      have Hg := Lib.hid (grown_trans hg hst.2)
      clear hst hcc hown hg
      go_wp2
      go_roundw
      case rel => exact ⟨j + 1, by omega, by go_num, by go_num, Hst.out.1, Hg.out⟩
      case measure => simp [intOf]; omega
    · obtain rfl : j = xs.length := by omega
      go_wp2
      go_ret
      refine ⟨rfl, ?_, hg⟩
      have e : marks k xs.length ++ xs.drop xs.length = marks k xs.length := by simp
      rw [e] at hown
      show World.ownsRow _ _ _ _ _ _ _
      rw [marks_len]
      exact hown

theorem markOrder_any (n : Int) (a : Option Addr) (xs : List Int) (cap : Nat) (k : Int) (B : Nat) (w : World) (h0 : 0 ≤ k) (h1 : k ≤ 1099511627776) (hn : xs.length ≤ 1048576) (ho : OwnI w B (.slice a xs.length cap) xs) :
    Calls Try.prog 20 #[.agg #[.int .i64 n, .slice a xs.length cap], .int .i64 k] w fun e w' => e = .returned (.int .i64 (k + xs.length)) ∧ OwnI w' B (.slice a xs.length cap) (marks k xs.length) ∧ w.grownBy w' (Value.slice a xs.length cap).ownBlock := by
  go_enter Try.func20, Try.ntmps20
  go_wp2_with fail
  refine (markIntS_any _ _ _ _ B _ h0 h1 hn (ho.alloc _)).mono ?_
  rintro e w1 ⟨rfl, ho1, hg1⟩
  go_wp2_with fail
  go_ret
  exact ⟨rfl, ho1, grown_alloc_set hg1⟩

theorem heldIntS_any (a : Option Addr) (n cap : Nat) (k : Int) (w : World) (h0 : 0 ≤ k) (h1 : k ≤ 1099511627776) (hn : n ≤ 1048576) (hx : Rd w a (marks k n)) :
    Calls Try.prog 33 #[.slice a n cap, .int .i64 k] w fun e w' => e = .returned (.int .i64 (k + n)) ∧ Below w.heap.size w w' := by
  go_enter Try.func33, Try.ntmps33
  go_wp2_with fail
  go_loop [1, 5] (fun k' i => ∃ j : Nat, j ≤ n ∧ i = .int .i64 j ∧ k' = .int .i64 (k + j)) (fun _ i => n - (intOf i).toNat)
  case atStart => exact ⟨0, Nat.zero_le _, rfl, by simp⟩
  case round =>
    obtain ⟨j, hj, rfl, rfl⟩ := hrel
    by_cases hlt : j < n
    · obtain ⟨b, off, rfl, hbl, hc⟩ := hx.cell j (by rw [marks_len]; exact hlt)
      rw [marks_nth hlt] at hc
      go_wp2_with fail
      go_round
      case rel => exact ⟨j + 1, by omega, by go_num, by go_num⟩
      case measure => simp [intOf]; omega
    · obtain rfl : j = n := by omega
      go_wp2_with fail
      go_ret
      exact ⟨rfl, (by repeat (first | exact Below.refl _ _ | assumption | refine Below.alloc ?_ (by first | exact Nat.le_refl _ | (simp only [World.size_alloc, World.size_setCell, World.size_drew]; omega) | omega) _ | refine Below.setCell ?_ (by first | exact Nat.le_refl _ | (simp only [World.size_alloc, World.size_setCell, World.size_drew]; omega) | omega) _ | refine Below.drew ?_))⟩

theorem walk (n0 : Int) (a0 : Option Addr) (xs0 : List Int) (cap0 : Nat) (w : World) (hn0 : -9223372036854775808 ≤ n0 ∧ n0 ≤ 9223372036854775807) (hx0 : Rd w a0 xs0) :
    Calls Try.prog 7 #[.agg #[.int .i64 n0, .slice a0 xs0.length cap0]] w fun e w' => e = .returned (.bool true) ∧ Below w.heap.size w w' := by
  have hR0 : (aooL n0 xs0).length ≤ 1048576 := aooL_len n0 xs0
  by_cases hs0 : 1048576 < (xs0.length : Int)
  · go_enter Try.func7, Try.ntmps7
    go_wp2_with fail
    refine (szOrder_no (by omega) (by omega) (by omega) hx0.len).mono ?_
    rintro e w1 ⟨rfl, hb1⟩
    have bw1 : Below w.heap.size w w1 := Below.trans (by repeat (first | exact Below.refl _ _ | assumption | refine Below.alloc ?_ (by first | exact Nat.le_refl _ | (simp only [World.size_alloc, World.size_setCell, World.size_drew]; omega) | omega) _ | refine Below.setCell ?_ (by first | exact Nat.le_refl _ | (simp only [World.size_alloc, World.size_setCell, World.size_drew]; omega) | omega) _ | refine Below.drew ?_)) (hb1.mono (by first | (simp only [World.size_alloc, World.size_setCell, World.size_drew]; omega) | omega))
    have A0_1 : Box2 w1 w.heap.size (.int .i64 n0) (.slice a0 xs0.length cap0) := ⟨by have := hb1.size; simp at this; omega, (hb1.cell (p := ⟨w.heap.size, 0, none⟩) (by simp <;> omega)).trans (by simp), (hb1.cell (p := ⟨w.heap.size, 1, none⟩) (by simp <;> omega)).trans (by simp)⟩
    have ⟨zA0_1, cA0_1, dA0_1⟩ := A0_1
    go_wp2_with fail
    go_ret
    exact ⟨rfl, bw1⟩
  go_enter Try.func7, Try.ntmps7
  go_wp2_with fail
  refine (szOrder_ok (by omega) (by omega)).mono ?_
  rintro e w1 ⟨rfl, hb⟩
  have bw1 : Below w.heap.size w w1 := Below.trans (by repeat (first | exact Below.refl _ _ | assumption | refine Below.alloc ?_ (by first | exact Nat.le_refl _ | (simp only [World.size_alloc, World.size_setCell, World.size_drew]; omega) | omega) _ | refine Below.setCell ?_ (by first | exact Nat.le_refl _ | (simp only [World.size_alloc, World.size_setCell, World.size_drew]; omega) | omega) _ | refine Below.drew ?_)) (hb.mono (by first | (simp only [World.size_alloc, World.size_setCell, World.size_drew]; omega) | omega))
  have z1 : w.heap.size ≤ w1.heap.size := bw1.size
  have A0_1 : Box2 w1 w.heap.size (.int .i64 n0) (.slice a0 xs0.length cap0) := ⟨by have := hb.size; simp at this; omega, (hb.cell (p := ⟨w.heap.size, 0, none⟩) (by simp <;> omega)).trans (by simp), (hb.cell (p := ⟨w.heap.size, 1, none⟩) (by simp <;> omega)).trans (by simp)⟩
  have ⟨zA0_1, cA0_1, dA0_1⟩ := A0_1
  clear hb
  go_wp2_with fail
  refine (toOrder_any _ _ _ _ _ (hx0.below bw1) (by omega)).mono ?_
  rintro e w2 ⟨pT0, qT0, rfl, ho, hb⟩
  have ht : Below w1.heap.size w1 w2 := hb
  have z2 : w1.heap.size ≤ w2.heap.size := ht.size
  have bw2 : Below w.heap.size w w2 := bw1.trans (ht.mono bw1.size)
  have A0_2 := A0_1.below ht
  have ⟨zA0_2, cA0_2, dA0_2⟩ := A0_2
  clear A0_1 cA0_1 dA0_1
  have T0_2 := ho
  have UT0 := T0_2.cut (Nat.le_refl _)
  clear ho
  clear ht hb
  go_wp2_with fail
  refine (sAscOrd_any _ _ _ _ _ hn0 (T0_2.rd)).mono ?_
  rintro e w3 ⟨pR0, qR0, rfl, ho0, hb⟩
  have ht : Below w2.heap.size w2 w3 := hb
  have z3 : w2.heap.size ≤ w3.heap.size := ht.size
  have bw3 : Below w.heap.size w w3 := bw2.trans (ht.mono bw2.size)
  have A0_3 := A0_2.below ht
  have ⟨zA0_3, cA0_3, dA0_3⟩ := A0_3
  have T0_3 := T0_2.below ht (Nat.le_refl _)
  clear A0_2 cA0_2 dA0_2 T0_2
  have R0_3 := ho0
  have UR0 := R0_3.cut (Nat.le_refl _)
  clear ho0
  clear ht hb
  go_wp2_with fail
  clear T0_3 UT0
  refine (toOrder_any _ _ _ _ _ (hx0.below bw3) (by omega)).mono ?_
  rintro e w4 ⟨pX0, qX0, rfl, ho, hb⟩
  have ht : Below w3.heap.size w3 w4 := hb
  have z4 : w3.heap.size ≤ w4.heap.size := ht.size
  have bw4 : Below w.heap.size w w4 := bw3.trans (ht.mono bw3.size)
  have A0_4 := A0_3.below ht
  have ⟨zA0_4, cA0_4, dA0_4⟩ := A0_4
  have R0_4 := R0_3.below ht (Nat.le_refl _)
  clear A0_3 cA0_3 dA0_3 R0_3
  have X0_4 := ho
  have UX0 := X0_4.cut (Nat.le_refl _)
  clear ho
  clear ht hb
  go_wp2_with fail
  refine (iAscOrd_any _ _ _ _ _ hn0 (X0_4.rd.below (by repeat (first | exact Below.refl _ _ | assumption | refine Below.alloc ?_ (by first | exact Nat.le_refl _ | (simp only [World.size_alloc, World.size_setCell, World.size_drew]; omega) | omega) _ | refine Below.setCell ?_ (by first | exact Nat.le_refl _ | (simp only [World.size_alloc, World.size_setCell, World.size_drew]; omega) | omega) _ | refine Below.drew ?_)))).mono ?_
  rintro e w5 ⟨pG0, qG0, rfl, ho0, hb⟩
  have ht : Below w4.heap.size w4 w5 := Below.trans (by repeat (first | exact Below.refl _ _ | assumption | refine Below.alloc ?_ (by first | exact Nat.le_refl _ | (simp only [World.size_alloc, World.size_setCell, World.size_drew]; omega) | omega) _ | refine Below.setCell ?_ (by first | exact Nat.le_refl _ | (simp only [World.size_alloc, World.size_setCell, World.size_drew]; omega) | omega) _ | refine Below.drew ?_)) (hb.mono (by first | (simp only [World.size_alloc, World.size_setCell, World.size_drew]; omega) | omega))
  have z5 : w4.heap.size ≤ w5.heap.size := ht.size
  have bw5 : Below w.heap.size w w5 := bw4.trans (ht.mono bw4.size)
  have A0_5 := A0_4.below ht
  have BX0_5 : Box2 w5 w4.heap.size (.int .i64 n0) (.slice pX0 xs0.length qX0) := (Box2.new w4 _ _ 28).below hb
  have ⟨zA0_5, cA0_5, dA0_5⟩ := A0_5
  have ⟨zBX0_5, cBX0_5, dBX0_5⟩ := BX0_5
  have R0_5 := R0_4.below ht (Nat.le_refl _)
  have X0_5 := X0_4.below ht (Nat.le_refl _)
  clear A0_4 cA0_4 dA0_4 R0_4 X0_4
  have G0_5 := ho0
  have UG0 := G0_5.cut (Nat.le_refl _); simp only [World.size_alloc] at UG0
  clear ho0
  clear ht hb
  go_wp2_with fail
  refine (eqIntS_any _ _ (aooL n0 xs0) (aooL n0 xs0) _ _ _ (G0_5.rd) (R0_5.rd)).mono ?_
  rw [eqL_self]
  rintro e w6 ⟨rfl, hb⟩
  have ht : Below w5.heap.size w5 w6 := hb
  have z6 : w5.heap.size ≤ w6.heap.size := ht.size
  have bw6 : Below w.heap.size w w6 := bw5.trans (ht.mono bw5.size)
  have A0_6 := A0_5.below ht
  have BX0_6 := BX0_5.below ht
  have ⟨zA0_6, cA0_6, dA0_6⟩ := A0_6
  have ⟨zBX0_6, cBX0_6, dBX0_6⟩ := BX0_6
  have R0_6 := R0_5.below ht (Nat.le_refl _)
  have X0_6 := X0_5.below ht (Nat.le_refl _)
  have G0_6 := G0_5.below ht (Nat.le_refl _)
  clear A0_5 cA0_5 dA0_5 BX0_5 cBX0_5 dBX0_5 R0_5 X0_5 G0_5
  clear ht hb
  go_wp2_with fail
  go_region_held3 (fun w' => w'.cell? ⟨w.heap.size, 0, none⟩ = some (.int .i64 n0) ∧ w'.cell? ⟨w.heap.size, 1, none⟩ = some (.slice a0 xs0.length cap0) ∧ w'.cell? ⟨w4.heap.size, 0, none⟩ = some (.int .i64 n0) ∧ w'.cell? ⟨w4.heap.size, 1, none⟩ = some (.slice pX0 xs0.length qX0))
    (first | exact ⟨P8.2.1, P8.2.2, Q8.2.1, Q8.2.2⟩ | exact ⟨P7.2.1, P7.2.2, Q7.2.1, Q7.2.2⟩ | go_keep)
    (first | (go_at_call 15; refine (toOrder_any _ _ _ _ _ (hx0.below (bw6.trans (Joins.below_draws _ _ _))) (by omega)).mono ?_; rintro e w7 ⟨a7', cap7', rfl, ho7, hb7⟩; have ht7 : Below w6.heap.size w6 w7 := (Joins.below_draws _ _ _).trans hb7; have P7 := A0_6.below ht7; have Q7 := BX0_6.below ht7) | (go_at_call 17; refine (eqOrder_any _ _ _ _ xs0 xs0 _ _ _ (X0_6.rd.below ht7) ho7.rd).mono ?_; rw [eqO_refl]; rintro e w8 ⟨rfl, hb8⟩; have P8 := P7.below hb8; have Q8 := Q7.below hb8))
  have ht : Below w6.heap.size w6 w8 := ht7.trans (hb8.mono ht7.size)
  have z8 : w6.heap.size ≤ w8.heap.size := ht.size
  have bw8 : Below w.heap.size w w8 := bw6.trans (ht.mono bw6.size)
  clear P7 Q7 P8 Q8 ho7
  have A0_8 := A0_6.below ht
  have BX0_8 := BX0_6.below ht
  have ⟨zA0_8, cA0_8, dA0_8⟩ := A0_8
  have ⟨zBX0_8, cBX0_8, dBX0_8⟩ := BX0_8
  have R0_8 := R0_6.below ht (Nat.le_refl _)
  have X0_8 := X0_6.below ht (Nat.le_refl _)
  have G0_8 := G0_6.below ht (Nat.le_refl _)
  clear A0_6 cA0_6 dA0_6 BX0_6 cBX0_6 dBX0_6 R0_6 X0_6 G0_6
  clear ht hb8 ht7 hb7
  go_wp2_with fail
  refine (markOrder_any _ _ _ _ _ _ _ (by omega) (by omega) (by omega) X0_8).mono ?_
  rintro e w9 ⟨rfl, ho, hg⟩
  have z9 : w8.heap.size ≤ w9.heap.size := hg.size
  have bw9 : Below w.heap.size w w9 := bw8.trans (below_of_grown hg (fun b e => by have := UX0 b e; omega) (by omega))
  have A0_9 := A0_8.kept hg (ne_own (fun c e => by have := UX0 c e; omega))
  have ⟨zA0_9, cA0_9, dA0_9⟩ := A0_9
  have BX0_9 := BX0_8.kept hg (ne_own (fun c e => by have := UX0 c e; omega))
  have ⟨zBX0_9, cBX0_9, dBX0_9⟩ := BX0_9
  have R0_9 := R0_8.kept hg (own_ne (fun c e e2 => by have h1 := UR0 c e; have h2 := UX0 c e2; omega))
  have G0_9 := G0_8.kept hg (own_ne (fun c e e2 => by have h1 := UG0 c e; have h2 := UX0 c e2; omega))
  clear A0_8 cA0_8 dA0_8 BX0_8 cBX0_8 dBX0_8 R0_8 X0_8 G0_8 hg
  have X0_9 := ho
  clear ho
  go_wp2_with fail
  refine (eqIntS_any _ _ (aooL n0 xs0) (aooL n0 xs0) _ _ _ (G0_9.rd) (R0_9.rd)).mono ?_
  rw [eqL_self]
  rintro e w10 ⟨rfl, hb⟩
  have ht : Below w9.heap.size w9 w10 := hb
  have z10 : w9.heap.size ≤ w10.heap.size := ht.size
  have bw10 : Below w.heap.size w w10 := bw9.trans (ht.mono bw9.size)
  have A0_10 := A0_9.below ht
  have BX0_10 := BX0_9.below ht
  have ⟨zA0_10, cA0_10, dA0_10⟩ := A0_10
  have ⟨zBX0_10, cBX0_10, dBX0_10⟩ := BX0_10
  have R0_10 := R0_9.below ht (Nat.le_refl _)
  have X0_10 := X0_9.below ht (Nat.le_refl _)
  have G0_10 := G0_9.below ht (Nat.le_refl _)
  clear A0_9 cA0_9 dA0_9 BX0_9 cBX0_9 dBX0_9 R0_9 X0_9 G0_9
  clear ht hb
  go_wp2_with fail
  refine (markIntS_any _ _ _ _ _ _ (by omega) (by omega) hR0 G0_10).mono ?_
  rintro e w11 ⟨rfl, ho, hg⟩
  have z11 : w10.heap.size ≤ w11.heap.size := hg.size
  have bw11 : Below w.heap.size w w11 := bw10.trans (below_of_grown hg (fun b e => by have := UG0 b e; omega) (by omega))
  have A0_11 := A0_10.kept hg (ne_own (fun c e => by have := UG0 c e; omega))
  have ⟨zA0_11, cA0_11, dA0_11⟩ := A0_11
  have BX0_11 := BX0_10.kept hg (ne_own (fun c e => by have := UG0 c e; omega))
  have ⟨zBX0_11, cBX0_11, dBX0_11⟩ := BX0_11
  have R0_11 := R0_10.kept hg (own_ne (fun c e e2 => by have h1 := UR0 c e; have h2 := UG0 c e2; omega))
  have X0_11 := X0_10.kept hg (own_ne (fun c e e2 => by have h1 := UX0 c e; have h2 := UG0 c e2; omega))
  clear A0_10 cA0_10 dA0_10 BX0_10 cBX0_10 dBX0_10 R0_10 X0_10 G0_10 hg
  have G0_11 := ho
  clear ho
  go_wp2_with fail
  refine (heldIntS_any _ _ _ _ _ (by omega) (by omega) hR0 G0_11.rd).mono ?_
  rintro e w12 ⟨rfl, hb⟩
  have ht : Below w11.heap.size w11 w12 := hb
  have z12 : w11.heap.size ≤ w12.heap.size := ht.size
  have bw12 : Below w.heap.size w w12 := bw11.trans (ht.mono bw11.size)
  have A0_12 := A0_11.below ht
  have BX0_12 := BX0_11.below ht
  have ⟨zA0_12, cA0_12, dA0_12⟩ := A0_12
  have ⟨zBX0_12, cBX0_12, dBX0_12⟩ := BX0_12
  have R0_12 := R0_11.below ht (Nat.le_refl _)
  have X0_12 := X0_11.below ht (Nat.le_refl _)
  have G0_12 := G0_11.below ht (Nat.le_refl _)
  clear A0_11 cA0_11 dA0_11 BX0_11 cBX0_11 dBX0_11 R0_11 X0_11 G0_11
  clear ht hb
  go_wp2_with fail
  clear X0_12 UX0
  refine (toOrder_any _ _ _ _ _ (hx0.below bw12) (by omega)).mono ?_
  rintro e w13 ⟨pV0, qV0, rfl, ho, hb⟩
  have ht : Below w12.heap.size w12 w13 := hb
  have z13 : w12.heap.size ≤ w13.heap.size := ht.size
  have bw13 : Below w.heap.size w w13 := bw12.trans (ht.mono bw12.size)
  have A0_13 := A0_12.below ht
  have BX0_13 := BX0_12.below ht
  have ⟨zA0_13, cA0_13, dA0_13⟩ := A0_13
  have ⟨zBX0_13, cBX0_13, dBX0_13⟩ := BX0_13
  have R0_13 := R0_12.below ht (Nat.le_refl _)
  have G0_13 := G0_12.below ht (Nat.le_refl _)
  clear A0_12 cA0_12 dA0_12 BX0_12 cBX0_12 dBX0_12 R0_12 G0_12
  have V0_13 := ho
  have UV0 := V0_13.cut (Nat.le_refl _)
  clear ho
  clear ht hb
  go_wp2_with fail
  refine (iAscOrd_any _ _ _ _ _ hn0 (V0_13.rd)).mono ?_
  rintro e w14 ⟨pH0, qH0, rfl, ho0, hb⟩
  have ht : Below w13.heap.size w13 w14 := hb
  have z14 : w13.heap.size ≤ w14.heap.size := ht.size
  have bw14 : Below w.heap.size w w14 := bw13.trans (ht.mono bw13.size)
  have A0_14 := A0_13.below ht
  have BX0_14 := BX0_13.below ht
  have ⟨zA0_14, cA0_14, dA0_14⟩ := A0_14
  have ⟨zBX0_14, cBX0_14, dBX0_14⟩ := BX0_14
  have R0_14 := R0_13.below ht (Nat.le_refl _)
  have G0_14 := G0_13.below ht (Nat.le_refl _)
  have V0_14 := V0_13.below ht (Nat.le_refl _)
  clear A0_13 cA0_13 dA0_13 BX0_13 cBX0_13 dBX0_13 R0_13 G0_13 V0_13
  have H0_14 := ho0
  have UH0 := H0_14.cut (Nat.le_refl _)
  clear ho0
  clear ht hb
  go_wp2_with fail
  clear V0_14 UV0
  refine (eqIntS_any _ _ (aooL n0 xs0) (aooL n0 xs0) _ _ _ (H0_14.rd) (R0_14.rd)).mono ?_
  rw [eqL_self]
  rintro e w15 ⟨rfl, hb⟩
  have ht : Below w14.heap.size w14 w15 := hb
  have z15 : w14.heap.size ≤ w15.heap.size := ht.size
  have bw15 : Below w.heap.size w w15 := bw14.trans (ht.mono bw14.size)
  have A0_15 := A0_14.below ht
  have BX0_15 := BX0_14.below ht
  have ⟨zA0_15, cA0_15, dA0_15⟩ := A0_15
  have ⟨zBX0_15, cBX0_15, dBX0_15⟩ := BX0_15
  have R0_15 := R0_14.below ht (Nat.le_refl _)
  have G0_15 := G0_14.below ht (Nat.le_refl _)
  have H0_15 := H0_14.below ht (Nat.le_refl _)
  clear A0_14 cA0_14 dA0_14 BX0_14 cBX0_14 dBX0_14 R0_14 G0_14 H0_14
  clear ht hb
  go_wp2_with fail
  refine (heldIntS_any _ _ _ _ _ (by omega) (by omega) hR0 G0_15.rd).mono ?_
  rintro e w16 ⟨rfl, hb⟩
  have ht : Below w15.heap.size w15 w16 := hb
  have z16 : w15.heap.size ≤ w16.heap.size := ht.size
  have bw16 : Below w.heap.size w w16 := bw15.trans (ht.mono bw15.size)
  have A0_16 := A0_15.below ht
  have BX0_16 := BX0_15.below ht
  have ⟨zA0_16, cA0_16, dA0_16⟩ := A0_16
  have ⟨zBX0_16, cBX0_16, dBX0_16⟩ := BX0_16
  have R0_16 := R0_15.below ht (Nat.le_refl _)
  have G0_16 := G0_15.below ht (Nat.le_refl _)
  have H0_16 := H0_15.below ht (Nat.le_refl _)
  clear A0_15 cA0_15 dA0_15 BX0_15 cBX0_15 dBX0_15 R0_15 G0_15 H0_15
  clear ht hb
  go_wp2_with fail
  go_ret
  exact ⟨rfl, bw16⟩

theorem rd_of_trod {H : Type} {enc : TypeId × Value → H} {W : World} {fuel : Nat} {c : Value} {y : DataW H × List MemPlace}
    (h : DataW.trod enc Try.prog W 0 (fun _ => true) true fuel 22 [c] = some y) : ∃ (a : Option Addr) (xs : List Int) (cap : Nat), c = .slice a xs.length cap ∧ Rd W a xs ∧ ∀ k, k < xs.length → (Lit.int .i64 (nth xs k)).wf = true := by
  rcases Go.ChangeShapes.open_ints Try.underlying22 Try.underlying3 (by kernel_rfl) h with ⟨hcs, _⟩ | ⟨x, len, cap, zs, hcs, _, hl, hm, hz, _, hcell, hwf⟩
  · simp only [List.cons.injEq, and_true] at hcs
    exact ⟨none, [], 0, hcs, ⟨by simp, fun k hk => by simp at hk⟩, fun k hk => by simp at hk⟩
  · simp only [List.cons.injEq, and_true] at hcs
    simp only [if_true] at hz
    have hlen : (zs.take len).length = len := by rw [List.length_take]; omega
    have hn : ∀ k, k < len → nth (zs.take len) k = zs.getD k 0 := by
      intro k hk
      simp only [nth, List.getD_eq_getElem?_getD, List.getElem?_take, hk, if_true]
    refine ⟨some x, zs.take len, cap, by rw [hlen]; exact hcs, ⟨by rw [hlen]; unfold maxLen at hm; omega, fun k hk => ?_⟩, fun k hk => ?_⟩
    · rw [hlen] at hk
      obtain ⟨b, off, sp⟩ := x
      have h0 := hcell 0 (by omega)
      have hsp : sp = none := by simpa [Addr.add] using World.cell?_spot h0
      subst hsp
      have hk' := hcell k (by omega)
      rw [Addr.add_lit] at hk'
      exact ⟨b, off, rfl, World.block_lt_of_cell? _ _ h0, by rw [hk', hn k hk]⟩
    · rw [hlen] at hk
      rw [hn k hk]
      have hk2 : k < zs.length := by omega
      exact hwf _ (by rw [List.getD_eq_getElem?_getD, List.getElem?_eq_getElem hk2]; exact List.getElem_mem hk2)

theorem own : ownKnob Try.prog.godebug = none := by kernel_rfl
theorem laidOut : laidOutB Try.prog = true := by kernel_rfl
theorem wf_bd {n : Int} (h : (Lit.int .i64 n).wf = true) : -9223372036854775808 ≤ n ∧ n ≤ 9223372036854775807 := by
  simp [Lit.wf, IntKind.min, IntKind.max, IntKind.bits, IntKind.signed] at h
  omega

theorem cellsO : Try.prog.cellsOf 24 = 2 := by kernel_rfl

open Go.ChangeShapes Go.WideShapes Go.ChangeAt Go.RowKit in
set_option maxRecDepth 100000 in
theorem lifted (os : Os) (started : os.Started) (H : Type) (enc : TypeId × Value → H) :
    ReturnsInHanded {} Try.checked os 7 .any (Rows.fnExactAscentOfOrderSpec.pre6 enc Try.prog Try.f7 Rows.fnExactAscentOfOrderRow.domain false) (Rows.fnExactAscentOfOrderSpec.post enc Try.prog Try.f7 false true false false) := by
  refine returnsInHanded_of_change (C := Try.checked) own started (by kernel_rfl) Try.func7
    (ChangeSpec.witness6 (enc := enc) (C := Try.checked) false ⟨#[], #[.agg #[.int .i64 0, .slice none 0 0]], []⟩ 8 (by kernel_rfl) (by kernel_rfl) (by kernel_rfl) (by kernel_rfl)) ?_
  intro W base args ds gs before hval0 hW hcnd _
  have hval : ∀ (j : Nat) t v, Try.f7.params[j]? = some t → args[j]? = some v → Value.okWide Try.prog W .any base t v := hval0
  have hW' := hW
  obtain ⟨p, q, hA0, hV, rfl, hfz, hnd⟩ := hW
  have hA : DataW.TrodAll enc Try.prog W 0 (fun _ => true) true Try.f7.params.toList args.toList ds p := hA0
  rw [Try.params7] at hA hval
  obtain ⟨v0, vs0, d0, ds0, p0, q0, hargs, rfl, rfl, h0, r0⟩ := trodAll_cons hA
  obtain ⟨rfl, rfl, rfl⟩ := trodAll_nil r0
  obtain rfl : args = #[v0] := by cases args; simp_all
  obtain ⟨rfl, rfl⟩ := trodVars_none hV
  have lt0 : ∀ x ∈ p0, x.block < W.heap.size := by obtain ⟨m, hm⟩ := h0; exact DataW.trod_lt m _ _ _ hm
  obtain ⟨c00, c01, y00, y01, m0, rfl, hd0, hp0, hy00, hy01⟩ := Go.Joins.open_agg2 Try.underlying24 (by kernel_rfl) cellsO (hval 0 24 v0 rfl rfl) h0
  obtain ⟨n0, e00, _, wf0⟩ := DataW.trod_int Try.underlying3 hy00
  simp only [List.cons.injEq, and_true] at e00
  subst e00
  obtain ⟨a0, xs0, cap0, rfl, rd0, wl0⟩ := rd_of_trod hy01
  clear hA0 hval0
  refine (walk n0 a0 xs0 cap0 W (wf_bd wf0) rd0).mono fun e W' ⟨he, bel⟩ => ?_
  subst he
  exact ⟨_, rfl, _, _, _, [], _, [], hW', trodAll_mk1 (shut_bool Try.underlying4 _), (trodAll_cons_mk (Below.trod laidOut (by kernel_rfl) (of_decide_eq_true (by kernel_rfl)) h0 bel lt0) trodAll_mk0), rfl, bel.frame _, fun h => by cases h⟩
theorem proved : Rows.FnExactAscentOfOrderSaid :=
  OpenClaim.holds_of_wide 7 Try.f7 rfl rfl rfl rfl rfl rfl rfl ⟨rfl, rfl, rfl, rfl, rfl⟩ rfl rfl rfl rfl rfl (by kernel_rfl) Try.func7 (by kernel_rfl)
    (of_decide_eq_true (by kernel_rfl)) (by unfold Func.isWrapper; first | (rw [if_pos (by decide +kernel)]; kernel_rfl) | (rw [if_neg (by decide +kernel)]; exact ⟨rfl, rfl⟩))
    (fun os started H enc _ => lifted os started H enc)

end Go.Proofs.Ytpenikceoogmgaa.ascentOfOrder
