/- PROVED: the law FnDualMatrices returns true for every input, and each of its arguments reads afterwards as before. No conditions. -/
import Derived.Test.YtkcdahcljcekcaaRows
import Derived.WalkKit
import Derived.WalkSpells
import Derived.WalkLawsBesides
import Derived.Deep.QuietTactic
import Derived.BigQuiet
import Derived.ProofKit
import Derived.OpenShut
import Derived.ShutString
import Derived.ChangeOld
import Derived.Below
import Derived.Lib.SmallJoins
import Derived.Lib.Hide
import Derived.Maps.AppendAt
import Derived.Deep.AppendLies
import Derived.Deep.RegionHeld3
import Derived.Deep.DeepCutAuto
import Derived.StillTail
import Derived.Shelf.Small.Bits
import Derived.Shelf.Small.Wraps
import Derived.Shelf.Strconv.Itoa0
import Derived.Shelf.Sort.Plain
import Derived.Shelf.Slices.Turned
import Derived.Shelf.Slices.Reverse
import Derived.Shelf.Slices.Equal
import Derived.Shelf.Slices.Clone
import Derived.Shelf.Slices.CompactI
import Derived.Shelf.Slices.SearchI
import Derived.Shelf.Slices.Cells
import Derived.Shelf.Slices.In.SortNone
import Derived.Shelf.Slices.Empties2
import Derived.Shelf.SlicesE.Reverse
import Derived.Shelf.SlicesE.Clone
import Derived.Shelf.SlSortCmp.Insertion
import Derived.Shelf.SlSortCmp.SiftDown1
import Derived.Shelf.SlSortCmp.HeapSort1
import Derived.Shelf.SlSortCmp.Insertion1
import Derived.Shelf.SlSortCmp.Median1
import Derived.Shelf.SlSortCmp.Pivot1
import Derived.Shelf.SlSortCmp.ReverseRange1
import Derived.Shelf.SlSortCmp.PartialInsertion1
import Derived.Shelf.SlSortCmp.PartitionEqual1
import Derived.Shelf.SlSortCmp.Partition1
import Derived.Shelf.SlSortCmp.Pdq1
import Derived.Shelf.SlSortCmp.Whole1
import Derived.Shelf.SlSortCmp.NoneTotal
import Derived.Sort.OwnSortedInts
import Derived.Lib.SlicesCompact
import Derived.Lib.RowBridge
import Derived.Deep.RegionLaw
import Derived.Test.YtkcdahcljcekcaaDualMatricesP2
namespace Go.Proofs.Ytkcdahcljcekcaa.dualMatrices
open Go Go.RowKit
set_option linter.unusedVariables false
set_option linter.unusedSimpArgs false
set_option maxHeartbeats 400000
open Go.Shelf
theorem cntE_row {xs : List Int} {k d i R : Nat} (hl : lv xs k = (i : Int)) (hr : rtE xs k = (R : Int)) (hR : R < d) : (fmap (cntE xs k i) d).set R (cntE xs k i R + 1) = fmap (cntE xs (k+1) i) d := by
  rw [list_fmap ((fmap (cntE xs k i) d).set R (cntE xs k i R + 1))]
  simp only [List.length_set, fmap_len]
  refine fmap_ext (fun b hb => ?_)
  rw [nth_setM (by rw [fmap_len]; exact hR), fmap_nth _ hb, cntE, hl, hr]
  by_cases e : b = R
  · rw [if_pos e, e, if_pos ⟨rfl, rfl⟩]
  · rw [if_neg e, if_neg (by omega)]; omega
theorem cntE_skip {xs : List Int} {k d i : Nat} (hl : lv xs k ≠ (i : Int)) : fmap (cntE xs k i) d = fmap (cntE xs (k+1) i) d :=
  fmap_ext (fun b hb => by rw [cntE, if_neg (fun h => hl h.1)]; omega)
set_option maxRecDepth 100000 in
set_option maxHeartbeats 1000000 in
theorem maOfOrd_any (n : Int) (a : Option Addr) (xs : List Int) (cap : Nat) (w : World) (hx : Rd w a xs) (hm : isIv n xs = true) :
    Calls Try.prog 139 #[.agg #[.int .i64 n, .slice a xs.length cap]] w fun e w' => ∃ a0 c0 vl, e = .returned (.agg #[.slice a0 (sets xs).length c0]) ∧ RowsP w' w.heap.size (.slice a0 (sets xs).length c0) vl (sqM (cntE xs xs.length) (sets xs).length (sets xs).length) ∧ Below w.heap.size w w' := by
  obtain ⟨i0, hi, hz0, hz1, hz2⟩ := info_parts infoInt
  have hlen := hx.len
  have hV := Var1.new (w.alloc (.cells #[.int .i64 n, .slice a xs.length cap] 45)) (.slice none 0 0) 40
  have hb0 : Below w.heap.size w ((w.alloc (.cells #[.int .i64 n, .slice a xs.length cap] 45)).alloc (.cells #[.slice none 0 0] 40)) := (by repeat (first | exact Below.refl _ _ | assumption | refine Below.alloc ?_ (by first | exact Nat.le_refl _ | (simp only [World.size_alloc, World.size_setCell, World.size_drew]; omega) | omega) _ | refine Below.setCell ?_ (by first | exact Nat.le_refl _ | (simp only [World.size_alloc, World.size_setCell, World.size_drew]; omega) | omega) _ | refine Below.drew ?_))
  have hA := (Box2.new w (.int .i64 n) (.slice a xs.length cap) 45).below ((Below.refl _ _).alloc (Nat.le_refl _) (.cells #[.slice none 0 0] 40))
  rw [World.size_alloc] at hV
  have hp := ord_rel (isIv_ord hm)
  have h10 : xs.length ≤ 10 := by have := hp.len; have := hp.n1; omega
  have hsl := sets_len xs
  have HE : Hid (∀ k, k < xs.length → (0 ≤ lv xs k ∧ lv xs k < ((sets xs).length : Int)) ∧ (0 ≤ rtE xs k ∧ rtE xs k < ((sets xs).length : Int))) := fun k hk => ends_in hm hk
  have HML := Lib.hid (most_levels hp (isIv_two hm))
  obtain ⟨D, hD⟩ : ∃ D, D = (sets xs).length := ⟨_, rfl⟩
  rw [← hD] at hsl HE HML ⊢
  have HX := Lib.hid hx
  have HP := Lib.hid hp
  have HOB := Lib.hid (isIv_ord hm)
  clear hp hx hD hm
  go_enter Try.func139, Try.ntmps139
  go_wp2_with fail
  refine (ivEnds_any _ _ _ _ _ (HX.out.below hb0) HOB.out).mono ?_
  rintro e w1 ⟨ag, cg, rfl, ho, hb⟩
  have b1 : Below w.heap.size w w1 := hb0.trans (hb.mono (by simp; omega))
  have hV1 := hV.below hb
  have hA1 := hA.below hb
  have ⟨zA, cA, dA⟩ := hA1
  have hzw1 : w.heap.size + 2 ≤ w1.heap.size := by have := hb.size; simp at this; omega
  have HO := Lib.hid ho
  have HV1 := Lib.hid hV1
  clear hb hV hb0 ho hV1 hA hA1
  go_wp2_with fail
  refine (ivLevels_any _ _ _ _ _ (HX.out.below b1) HP.out).mono ?_
  rintro e w2 ⟨al, cl, rfl, hol, hb2⟩
  have b2 := b1.trans (hb2.mono b1.size)
  have HO2 := Lib.hid (HO.out.below hb2 (Nat.le_refl _))
  have HV2 := Lib.hid (HV1.out.below hb2)
  have hz2' : w.heap.size + 2 ≤ w2.heap.size := by have := hb2.size; omega
  have hml := ivMost_any al (levs xs xs.length) cl w2 hol.rd
  rw [levs_len] at hml
  have hmv := HML.out
  obtain ⟨M, hM⟩ : ∃ M, M = mostTo (levs xs xs.length) xs.length := ⟨_, rfl⟩
  rw [← hM] at hml hmv
  have HMC := Lib.hid hml
  have hMD : M = (D : Int) - 1 := by omega
  clear hb2 HO HV1 cA dA hol hml hM hmv
  subst hMD
  go_wp2_with fail
  refine HMC.out.mono ?_
  rintro e w' ⟨rfl, rfl⟩
  have hDD : (D : Int) - 1 + 1 = (D : Int) := by omega
  have hO1 := Var1.new w2 (.slice none 0 0) 40
  have bb1 : Below w2.heap.size w2 (w2.alloc (.cells #[.slice none 0 0] 40)) := (by repeat (first | exact Below.refl _ _ | assumption | refine Below.alloc ?_ (by first | exact Nat.le_refl _ | (simp only [World.size_alloc, World.size_setCell, World.size_drew]; omega) | omega) _ | refine Below.setCell ?_ (by first | exact Nat.le_refl _ | (simp only [World.size_alloc, World.size_setCell, World.size_drew]; omega) | omega) _ | refine Below.drew ?_))
  have HV3 := Lib.hid (HV2.out.below bb1)
  have HO1 := Lib.hid hO1
  have hRE : Hid (∀ W, Below w2.heap.size w2 W → Rd W ag (endp xs xs.length)) := fun W h => (HO2.out.rd (by omega)).below h
  have HB1 := Lib.hid (b2.trans (bb1.mono b2.size))
  obtain ⟨b4, hb4⟩ : ∃ b4, b4 = w2.heap.size := ⟨_, rfl⟩
  have HB4 := Lib.hid hb4
  have hz4 : w.heap.size + 2 ≤ b4 := by omega
  have HBB := Lib.hid bb1
  rw [← hb4] at HO1
  clear hb4 hO1 bb1 HMC
  go_wp2_with fail
  clear hDD
  go_loopw [6] (fun i wr => ∃ (k : Nat) (v : Value) (vl : List Value), k ≤ D ∧ i = .int .i64 k ∧ Var1 wr b4 v ∧ RowsP wr (b4 + 1) v vl (sqM (cntE xs xs.length) k D) ∧ Var1 wr (w.heap.size + 1) (.slice none 0 0) ∧ Below w2.heap.size w2 wr) (fun i _ => D - (intOf i).toNat)
  case atStart => exact ⟨0, .slice none 0 0, [], Nat.zero_le _, rfl, HO1.out, RowsP.nil _ _, HV3.out, HBB.out⟩
  case round =>
    rw [← HB4.out]
    obtain ⟨k, v, vl, hk, rfl, hO, hro, hV, hb⟩ := hrel
    have hbs := hb.size
    have hO9 := hO.1.1
    have HRO := Lib.hid hro
    obtain ⟨av, cv, ev⟩ := hro.o.form
    rw [sqM_len] at ev
    subst ev
    have HO := Lib.hid hO
    have HV := Lib.hid hV
    by_cases hlt : k < D
    · have k1 : (k : Int) < (D : Int) := by omega
      have HN : Hid (sqM (cntE xs xs.length) (k+1) D = sqM (cntE xs xs.length) k D ++ [fmap (cntE xs xs.length k) D]) := sqM_succ _ _ _
      have h63 : (sqM (cntE xs xs.length) k D).length ≤ 1048576 := by rw [sqM_len]; omega
      obtain ⟨W1, hW1⟩ : ∃ x : World, x = wr := ⟨_, rfl⟩
      subst hW1
      clear hro hO hV
      go_wp2_with (at_make; refine wpList_make_full _ rfl (.tmp 22) (.tmp 22) 24 rfl W1.heap.size 3 i0 (.int .i64 0) 1 Try.underlying24 hi hz0 hz1 .i64 .i64 _ _ D rfl rfl rfl rfl (by rw [hz2]; omega) (by unfold maxLen; omega) (Nat.le_refl _) ?_; intro w4 hown4 hgrow4)
      have bb4 : Below W1.heap.size W1 w4 := below_grown_none hgrow4 (Nat.le_refl _)
      have o4 : OwnI w4 W1.heap.size (.slice (some ⟨W1.heap.size, 0, none⟩) D D) (fmap (cntE xs 0 k) D) := by
        have h := made_row (fun _ => 0) hown4
        have e : fmap (cntE xs 0 k) D = List.replicate D 0 := by
          apply List.ext_getElem?
          intro j
          by_cases hj : j < D <;> simp [fmap, hj, cntE]
        rw [e]
        simpa [rowF, fmap] using h
      have HO4 := Lib.hid o4
      clear hown4 hgrow4 o4
      go_wp2_with fail
      go_loopw [26] (fun i wq => ∃ q : Nat, q ≤ xs.length ∧ i = .int .i64 q ∧ OwnI wq W1.heap.size (.slice (some ⟨W1.heap.size, 0, none⟩) D D) (fmap (cntE xs q k) D) ∧ Below W1.heap.size W1 wq) (fun i _ => xs.length - (intOf i).toNat)
      case atStart => exact ⟨0, Nat.zero_le _, rfl, HO4.out, bb4⟩
      case round =>
        obtain ⟨q, hq, rfl, hu, hbq⟩ := hrel
        have hbqs := hbq.size
        by_cases hlt2 : q < xs.length
        · have q1 : (q : Int) < (xs.length : Int) := by omega
          obtain ⟨b5, off5, rfl, hb5, hcl, hcr⟩ := (hRE.out wr (hb.trans (hbq.mono (by omega)))).pair (prs_len _ _ _) hlt2
          rw [endp, prs_lft _ _ hlt2] at hcl
          rw [endp, prs_rgt _ _ hlt2] at hcr
          have ⟨⟨l0, l1⟩, ⟨r0, r1⟩⟩ := HE.out q hlt2
          obtain ⟨R, hR⟩ := Int.eq_ofNat_of_zero_le r0
          by_cases hlk : lv xs q = (k : Int)
          · have HST := Lib.hid (cntE_row (d := D) hlk hR (by omega))
            rw [hlk] at hcl
            rw [hR] at hcr r1
            have hRD : R < D := by omega
            have hu' : wr.ownsRow W1.heap.size 3 1 (.slice (some ⟨W1.heap.size, 0, none⟩) D D) D ((fmap (cntE xs q k) D).map (Value.int .i64)) := by
              have h := hu
              unfold OwnI at h
              rw [fmap_len] at h
              exact h
            have hst := (World.ownsRow.stored hu' R (.int .i64 (cntE xs q k R + 1)))
            have hcc := World.ownsRow.cellAt hu' R (by omega)
            have hcR : wr.cell? ⟨W1.heap.size, R, none⟩ = some (.int .i64 (cntE xs q k R)) := by
              rw [hcc]
              simp [fmap, hRD]
            have hfr := World.ownsRow.frozenAt hu' R
            have ⟨hb1', hb2'⟩ := cntE_bd xs k R q
            rw [← List.map_set, HST.out] at hst
            have hst2 : OwnI (wr.setCell ⟨W1.heap.size, R, none⟩ (.int .i64 (cntE xs q k R + 1))) W1.heap.size (.slice (some ⟨W1.heap.size, 0, none⟩) D D) (fmap (cntE xs (q+1) k) D) := by
              unfold OwnI
              rw [fmap_len]
              exact hst.1
            have hst3 := hst2.alloc (.cells #[.int .i64 (k : Int), .int .i64 (R : Int)] 96)
            have b9 := (hbq.setCell (p := ⟨W1.heap.size, R, none⟩) (Nat.le_refl _) (.int .i64 (cntE xs q k R + 1))).alloc (by simpa using hbqs) (.cells #[.int .i64 (k : Int), .int .i64 (R : Int)] 96)
            have hgz := (hu.lt W1.heap.size rfl).2
            obtain ⟨Z, hZ⟩ : ∃ Z, Z = cntE xs q k R := ⟨_, rfl⟩
            rw [← hZ] at hcR hst3 b9 hb1' hb2'
            have HS3 := Lib.hid hst3
            clear hu hu' hst hst2 hst3 hcc hlk hR hZ
            go_wp2_with fail
            go_roundw
            case rel => exact ⟨q + 1, by omega, by go_num, HS3.out, b9⟩
            case measure => simp [intOf]; omega
          · have hne : (lv xs q == (k : Int)) = false := by simp [hlk]
            have HST := Lib.hid (cntE_skip (d := D) hlk)
            have hu3 := hu.alloc (.cells #[.int .i64 (lv xs q), .int .i64 (rtE xs q)] 96)
            rw [HST.out] at hu3
            have b9 := hbq.alloc hbqs (.cells #[.int .i64 (lv xs q), .int .i64 (rtE xs q)] 96)
            obtain ⟨Z, hZ⟩ : ∃ Z, Z = lv xs q := ⟨_, rfl⟩
            rw [← hZ] at hcl hne hu3 b9
            have HU3 := Lib.hid hu3
            clear hu hu3 hlk hZ hR
            go_wp2_with fail
            go_roundw
            case rel => exact ⟨q + 1, by omega, by go_num, HU3.out, b9⟩
            case measure => simp [intOf]; omega
        · obtain rfl : q = xs.length := by omega
          have HU := Lib.hid hu
          have hO2 := HO.out.below hbq
          have HRO2 := Lib.hid (HRO.out.below hbq (Nat.le_refl _))
          have ⟨⟨zO, cO⟩, fO⟩ := hO2
          have HO2 := Lib.hid hO2
          have HUL : Hid ((fmap (cntE xs xs.length k) D).length = D) := fmap_len _ _
          clear hu hO2
          go_wp2_with (at_builtin; refine push_row (v := .slice av k cv) (C := W1.heap.size) rfl _ _ rfl rfl HRO2.out HU.out rfl h63 (by omega) hbqs (fun c e => (HRO.out.blk.1 c e)) (fun i hi c e => HRO.out.blk.2 i hi c e) ?_)
          intro v5 w5 ho5 hg5
          have hlo := HRO2.out.o.lt
          have hO5 := HO2.out.kept hg5 (ne_own (fun c e => by have := (hlo c e).1; omega))
          have hV5 := (HV.out.below hbq).kept hg5 (ne_own (fun c e => by have := (hlo c e).1; omega))
          have b5 : Below w2.heap.size w2 w5 := (hb.trans (hbq.mono hbs)).trans (below_of_grown hg5 (fun c e => by have := (hlo c e).1; have := HB4.out; omega) (by omega))
          obtain ⟨a5, c5, e5⟩ := ho5.o.form
          subst e5
          have ⟨⟨zO5, cO5⟩, fO5⟩ := hO5
          obtain ⟨L5, hL5⟩ : ∃ L5, L5 = (sqM (cntE xs xs.length) k D ++ [fmap (cntE xs xs.length k) D]).length := ⟨_, rfl⟩
          rw [← hL5] at ho5 ⊢
          have ho6 := ho5.setBelow (p := ⟨b4, 0, none⟩) (show b4 < b4 + 1 by omega) (.slice a5 L5 c5)
          have hO6 := hO5.set (.slice a5 L5 c5)
          have hV6 := hV5.other (p := ⟨b4, 0, none⟩) (.slice a5 L5 c5) (show w.heap.size + 1 ≠ b4 by omega)
          have b6 := b5.setCell (p := ⟨b4, 0, none⟩) (show w2.heap.size ≤ b4 by have := HB4.out; omega) (.slice a5 L5 c5)
          have H6 := Lib.hid (And.intro ho6 (And.intro hO6 (And.intro hV6 b6)))
          clear ho5 hg5 hlo hO5 hV5 ho6 hO6 hV6 hL5
          go_wp2_with fail
          go_roundw
          case rel => exact ⟨k + 1, _, _, by omega, by go_num, H6.out.2.1, by rw [HN.out]; exact H6.out.1, H6.out.2.2.1, (by have h := H6.out.2.2.2; rw [← HB4.out] at h; exact h)⟩
          case measure => simp [intOf]; omega
    · obtain rfl : k = D := by omega
      have ⟨⟨zO, cO⟩, fO⟩ := hO
      have ⟨⟨zV, cV⟩, fV⟩ := hV
      have bw := b2.trans (hb.mono (by omega))
      clear hro hO hV
      go_wp2_with fail
      have hV2 := HV.out.set (.slice av k cv)
      have b2 := bw.setCell (p := ⟨w.heap.size + 1, 0, none⟩) (by simp) (.slice av k cv)
      refine bodyPost_ret (v := .agg #[.slice av k cv]) (by have ⟨⟨_, q1⟩, _⟩ := hV2; simp [results, Try.results139, go_sem, q1]) rfl ?_
      exact ⟨av, cv, vl, rfl, (HRO.out.setBelow (show w.heap.size + 1 < b4 + 1 by omega) _).mono (by omega), b2⟩

theorem ivRefuses_any (n : Int) (ad : Option Addr) (xs : List Int) (cap : Nat) (a b c d : Nat) (w : World) (hx : Rd w ad xs) (hr : RelP n xs) (ha : a < xs.length) (hc : c < xs.length) :
    Calls Try.prog 267 #[.agg #[.int .i64 n, .slice ad xs.length cap], .int .i64 a, .int .i64 b, .int .i64 c, .int .i64 d] w fun e w' => e = .returned (.bool (refB xs a b c d)) ∧ Below w.heap.size w w' := by
  have hx1 := hx.alloc (.cells #[.int .i64 n, .slice ad xs.length cap] 45)
  have hn : xs.length ≤ 10 := by have := hr.len; have := hr.n1; omega
  have pa := hr.pos a ha
  have sa : nth xs a ≤ 9223372036854775807 := by have := hr.small a ha; omega
  have pc := hr.pos c hc
  have sc : nth xs c ≤ 9223372036854775807 := by have := hr.small c hc; omega
  have b0 : (0 : Int) ≤ (b : Int) := by omega
  have d0 : (0 : Int) ≤ (d : Int) := by omega
  have a1 : (a : Int) < (xs.length : Int) := by omega
  have c1 : (c : Int) < (xs.length : Int) := by omega
  obtain ⟨bl, off, rfl, hbl, hca⟩ := hx1.cell a ha
  obtain ⟨b', off', e', hbl', hcc⟩ := hx1.cell c hc
  simp only [Option.some.injEq, Addr.mk.injEq, and_true] at e'
  obtain ⟨rfl, rfl⟩ := e'
  obtain ⟨b', off', e', hbl0, hca0⟩ := hx.cell a ha
  simp only [Option.some.injEq, Addr.mk.injEq, and_true] at e'
  obtain ⟨rfl, rfl⟩ := e'
  obtain ⟨b', off', e', hbl0, hcc0⟩ := hx.cell c hc
  simp only [Option.some.injEq, Addr.mk.injEq, and_true] at e'
  obtain ⟨rfl, rfl⟩ := e'
  cases h1 : hasB (nth xs a) b
  · have HF : Hid (refB xs a b c d = false) := by simp [Hid, refB, h1]
    go_enter Try.func267, Try.ntmps267
    go_wp2_with (go_at_call 180; refine (orHas_any _ _ _ (by assumption) (by assumption) (by assumption)).mono ?_; rintro e w' ⟨rfl, rfl⟩)
    go_ret
    exact ⟨ret_bool HF.out.symm, (by repeat (first | exact Below.refl _ _ | assumption | refine Below.alloc ?_ (by first | exact Nat.le_refl _ | (simp only [World.size_alloc, World.size_setCell, World.size_drew]; omega) | omega) _ | refine Below.setCell ?_ (by first | exact Nat.le_refl _ | (simp only [World.size_alloc, World.size_setCell, World.size_drew]; omega) | omega) _ | refine Below.drew ?_))⟩
  · cases h2 : hasB (nth xs c) d
    · have HF : Hid (refB xs a b c d = false) := by simp [Hid, refB, h2]
      go_enter Try.func267, Try.ntmps267
      go_wp2_with (go_at_call 180; refine (orHas_any _ _ _ (by assumption) (by assumption) (by assumption)).mono ?_; rintro e w' ⟨rfl, rfl⟩)
      go_ret
      exact ⟨ret_bool HF.out.symm, (by repeat (first | exact Below.refl _ _ | assumption | refine Below.alloc ?_ (by first | exact Nat.le_refl _ | (simp only [World.size_alloc, World.size_setCell, World.size_drew]; omega) | omega) _ | refine Below.setCell ?_ (by first | exact Nat.le_refl _ | (simp only [World.size_alloc, World.size_setCell, World.size_drew]; omega) | omega) _ | refine Below.drew ?_))⟩
    · cases h3 : hasB (nth xs c) b
      · have HF : Hid (refB xs a b c d = !hasB (nth xs a) d) := by simp [Hid, refB, h1, h2, h3]
        go_enter Try.func267, Try.ntmps267
        go_wp2_with (go_at_call 180; refine (orHas_any _ _ _ (by assumption) (by assumption) (by assumption)).mono ?_; rintro e w' ⟨rfl, rfl⟩)
        go_ret
        exact ⟨ret_bool HF.out.symm, (by repeat (first | exact Below.refl _ _ | assumption | refine Below.alloc ?_ (by first | exact Nat.le_refl _ | (simp only [World.size_alloc, World.size_setCell, World.size_drew]; omega) | omega) _ | refine Below.setCell ?_ (by first | exact Nat.le_refl _ | (simp only [World.size_alloc, World.size_setCell, World.size_drew]; omega) | omega) _ | refine Below.drew ?_))⟩
      · have HF : Hid (refB xs a b c d = false) := by simp [Hid, refB, h3]
        go_enter Try.func267, Try.ntmps267
        go_wp2_with (go_at_call 180; refine (orHas_any _ _ _ (by assumption) (by assumption) (by assumption)).mono ?_; rintro e w' ⟨rfl, rfl⟩)
        go_ret
        exact ⟨ret_bool HF.out.symm, (by repeat (first | exact Below.refl _ _ | assumption | refine Below.alloc ?_ (by first | exact Nat.le_refl _ | (simp only [World.size_alloc, World.size_setCell, World.size_drew]; omega) | omega) _ | refine Below.setCell ?_ (by first | exact Nat.le_refl _ | (simp only [World.size_alloc, World.size_setCell, World.size_drew]; omega) | omega) _ | refine Below.drew ?_))⟩

/-- nothing refuses ahead of the list k, l, m, o -/
def NoRef (xs : List Int) (k l m o : Nat) : Prop :=
  (∀ a, a < k → find1 (pairF xs a) xs.length = none) ∧ (∀ b, b < l → pairF xs k b = none) ∧ (∀ c, c < m → find1 (refF xs k l c) xs.length = none) ∧ ∀ d, d < o → refF xs k l m d = none
theorem NoRef.d {xs : List Int} {k l m o : Nat} (h : NoRef xs k l m o) (h1 : refB xs k l m o = false) : NoRef xs k l m (o+1) :=
  ⟨h.1, h.2.1, h.2.2.1, fun d hd => by
    by_cases e : d = o
    · rw [e, refF, h1]; rfl
    · exact h.2.2.2 d (by omega)⟩
theorem NoRef.c {xs : List Int} {k l m : Nat} (h : NoRef xs k l m xs.length) : NoRef xs k l (m+1) 0 :=
  ⟨h.1, h.2.1, fun c hc => by
    by_cases e : c = m
    · rw [e]; exact find1_none h.2.2.2
    · exact h.2.2.1 c (by omega), fun d hd => by omega⟩
theorem NoRef.b {xs : List Int} {k l : Nat} (h : NoRef xs k l xs.length 0) : NoRef xs k (l+1) 0 0 :=
  ⟨h.1, fun b hb => by
    by_cases e : b = l
    · rw [e, pairF_ref]; exact find1_none h.2.2.1
    · exact h.2.1 b (by omega), fun c hc => by omega, fun d hd => by omega⟩
theorem NoRef.a {xs : List Int} {k : Nat} (h : NoRef xs k xs.length 0 0) : NoRef xs (k+1) 0 0 0 :=
  ⟨fun a ha => by
    by_cases e : a = k
    · rw [e]; exact find1_none h.2.1
    · exact h.1 a (by omega), fun b hb => by omega, fun c hc => by omega, fun d hd => by omega⟩
theorem NoRef.no {xs : List Int} {l m o : Nat} (h : NoRef xs xs.length l m o) : twoF xs = none := find1_none h.1
theorem NoRef.yes {xs : List Int} {k l m o : Nat} (h : NoRef xs k l m o) (hk : k < xs.length) (hl : l < xs.length) (hm : m < xs.length) (ho : o < xs.length) (h1 : refB xs k l m o = true) :
    twoF xs = some [(k : Int), (l : Int), (m : Int), (o : Int)] :=
  find1_some hk (find1_some hl (by rw [pairF_ref]; exact find1_some hm (find1_some ho (by rw [refF, h1]; rfl) h.2.2.2) h.2.2.1) h.2.1) h.1
theorem ivTwoTwo_any (n : Int) (a : Option Addr) (xs : List Int) (cap : Nat) (w : World) (hx : Rd w a xs) (hp : RelP n xs) :
    Calls Try.prog 247 #[.agg #[.int .i64 n, .slice a xs.length cap]] w fun e w' => ∃ a' cap', e = .returned (.tuple #[.slice a' ((twoF xs).getD []).length cap', .bool (twoF xs).isSome]) ∧ OwnI w' w.heap.size (.slice a' ((twoF xs).getD []).length cap') ((twoF xs).getD []) ∧ Below w.heap.size w w' := by
  have hl10 : xs.length ≤ 10 := by have := hp.len; have := hp.n1; omega
  obtain rfl : n = (xs.length : Int) := hp.len.symm
  go_enter Try.func247, Try.ntmps247
  go_wp2_with fail
  go_loopw [4] (fun i' wr => ∃ k : Nat, k ≤ xs.length ∧ i' = .int .i64 k ∧ NoRef xs k 0 0 0 ∧ Below w.heap.size w wr ∧ Box2 wr w.heap.size (.int .i64 (xs.length : Int)) (.slice a xs.length cap)) (fun i' _ => xs.length - (intOf i').toNat)
  case atStart => exact ⟨0, Nat.zero_le _, rfl, ⟨fun c hc => by omega, fun b hb => by omega, fun b hb => by omega, fun b hb => by omega⟩, (by repeat (first | exact Below.refl _ _ | assumption | refine Below.alloc ?_ (by first | exact Nat.le_refl _ | (simp only [World.size_alloc, World.size_setCell, World.size_drew]; omega) | omega) _ | refine Below.setCell ?_ (by first | exact Nat.le_refl _ | (simp only [World.size_alloc, World.size_setCell, World.size_drew]; omega) | omega) _ | refine Below.drew ?_)), Box2.new w _ _ _⟩
  case round =>
    obtain ⟨k, hk, rfl, hall, hb, hB⟩ := hrel
    obtain ⟨wo, rfl⟩ : ∃ wo : World, wo = wr := ⟨_, rfl⟩
    have ⟨zr, cr, dr⟩ := hB
    have HA := Lib.hid hall
    clear hall
    by_cases hlt : k < xs.length
    · have k1 : (k : Int) < (xs.length : Int) := by omega
      go_wp2_with fail
      clear cr dr
      go_loopw [5] (fun i' wr => ∃ l : Nat, l ≤ xs.length ∧ i' = .int .i64 l ∧ NoRef xs k l 0 0 ∧ Below w.heap.size w wr ∧ Box2 wr w.heap.size (.int .i64 (xs.length : Int)) (.slice a xs.length cap)) (fun i' _ => xs.length - (intOf i').toNat)
      case atStart => exact ⟨0, Nat.zero_le _, rfl, HA.out, hb, hB⟩
      case round =>
        clear hb hB
        obtain ⟨l, hl, rfl, hall, hb, hB⟩ := hrel
        obtain ⟨wp, rfl⟩ : ∃ wp : World, wp = wr := ⟨_, rfl⟩
        have ⟨zr, cr, dr⟩ := hB
        have HL := Lib.hid hall
        clear hall
        by_cases hlt2 : l < xs.length
        · have l1 : (l : Int) < (xs.length : Int) := by omega
          go_wp2_with fail
          clear cr dr
          go_loopw [6] (fun i' wr => ∃ m : Nat, m ≤ xs.length ∧ i' = .int .i64 m ∧ NoRef xs k l m 0 ∧ Below w.heap.size w wr ∧ Box2 wr w.heap.size (.int .i64 (xs.length : Int)) (.slice a xs.length cap)) (fun i' _ => xs.length - (intOf i').toNat)
          case atStart => exact ⟨0, Nat.zero_le _, rfl, HL.out, hb, hB⟩
          case round =>
            clear hb hB
            obtain ⟨m, hm, rfl, hall, hb, hB⟩ := hrel
            obtain ⟨wq, rfl⟩ : ∃ wq : World, wq = wr := ⟨_, rfl⟩
            have ⟨zr, cr, dr⟩ := hB
            have HM := Lib.hid hall
            clear hall
            by_cases hlt3 : m < xs.length
            · have m1 : (m : Int) < (xs.length : Int) := by omega
              go_wp2_with fail
              clear cr dr
              go_loopw [7] (fun i' wr => ∃ o : Nat, o ≤ xs.length ∧ i' = .int .i64 o ∧ NoRef xs k l m o ∧ Below w.heap.size w wr ∧ Box2 wr w.heap.size (.int .i64 (xs.length : Int)) (.slice a xs.length cap)) (fun i' _ => xs.length - (intOf i').toNat)
              case atStart => exact ⟨0, Nat.zero_le _, rfl, HM.out, hb, hB⟩
              case round =>
                clear hb hB
                obtain ⟨o, ho, rfl, hall, hb, hB⟩ := hrel
                have ⟨zr, cr, dr⟩ := hB
                have HO := Lib.hid hall
                clear hall
                by_cases hlt4 : o < xs.length
                · have o1 : (o : Int) < (xs.length : Int) := by omega
                  cases hs : refB xs k l m o
                  · have hfin := Lib.hid (HO.out.d hs)
                    have HS := Lib.hid hs
                    clear hs
                    go_wp2_with fail
                    refine (ivRefuses_any _ _ _ _ _ _ _ _ _ (hx.below hb) hp hlt hlt3).mono ?_
                    rw [HS.out]
                    rintro e w3 ⟨rfl, hb3⟩
                    have B3 := hB.below hb3
                    have bw3 := hb.trans (hb3.mono hb.size)
                    go_wp2_with fail
                    go_roundw
                    case rel => exact ⟨o + 1, by omega, by go_num, hfin.out, bw3, B3⟩
                    case measure => simp [intOf]; omega
                  · have ht := HO.out.yes hlt hlt2 hlt3 hlt4 hs
                    have HT := Lib.hid ht
                    have HS := Lib.hid hs
                    clear hs ht
                    go_wp2_with fail
                    refine (ivRefuses_any _ _ _ _ _ _ _ _ _ (hx.below hb) hp hlt hlt3).mono ?_
                    rw [HS.out]
                    rintro e w3 ⟨rfl, hb3⟩
                    have bw3 := hb.trans (hb3.mono hb.size)
                    go_wp2_with fail
                    refine bodyPost_ret (v := .tuple #[.slice (some ⟨w3.heap.size, 0, none⟩) 4 4, .bool true]) (by simp [results, Try.results247, go_sem]) rfl ?_
                    refine ⟨some ⟨w3.heap.size, 0, none⟩, 4, by rw [HT.out]; rfl, ?_, bw3.alloc bw3.size _⟩
                    rw [HT.out]
                    exact (OwnI.new w3 [(k : Int), (l : Int), (m : Int), (o : Int)] (by simp)).mono bw3.size
                · obtain rfl : o = xs.length := by omega
                  have hfin := Lib.hid HO.out.c
                  go_wp2_with fail
                  go_roundw
                  case rel => exact ⟨m + 1, by omega, by go_num, hfin.out, hb, hB⟩
                  case measure => simp [intOf]; omega
            · obtain rfl : m = xs.length := by omega
              have hfin := Lib.hid HM.out.b
              go_wp2_with fail
              go_roundw
              case rel => exact ⟨l + 1, by omega, by go_num, hfin.out, hb, hB⟩
              case measure => simp [intOf]; omega
        · obtain rfl : l = xs.length := by omega
          have hfin := Lib.hid HL.out.a
          go_wp2_with fail
          go_roundw
          case rel => exact ⟨k + 1, by omega, by go_num, hfin.out, hb, hB⟩
          case measure => simp [intOf]; omega
    · obtain rfl : k = xs.length := by omega
      have ht := HA.out.no
      have HT := Lib.hid ht
      clear ht
      go_wp2_with fail
      refine bodyPost_ret (v := .tuple #[.slice none 0 0, .bool false]) (by simp [results, Try.results247, go_sem]) rfl ?_
      exact ⟨none, 0, by rw [HT.out]; rfl, by rw [HT.out]; exact OwnI.nil _ _, hb⟩

theorem ivIs_any (n : Int) (a : Option Addr) (xs : List Int) (cap : Nat) (w : World) (hx : Rd w a xs) (hp : RelP n xs) :
    Calls Try.prog 214 #[.agg #[.int .i64 n, .slice a xs.length cap]] w fun e w' => e = .returned (.bool (!(twoF xs).isSome)) ∧ Below w.heap.size w w' := by
  have hx1 := hx.alloc (.cells #[.int .i64 n, .slice a xs.length cap] 45)
  go_enter Try.func214, Try.ntmps214
  go_wp2_with fail
  refine (ivTwoTwo_any _ _ _ _ _ hx1 hp).mono ?_
  rintro e w2 ⟨a2, cap2, rfl, ho2, hb2⟩
  clear ho2
  go_wp2_with fail
  go_ret
  exact ⟨ret_bool (by cases twoF xs <;> rfl), Below.trans (by repeat (first | exact Below.refl _ _ | assumption | refine Below.alloc ?_ (by first | exact Nat.le_refl _ | (simp only [World.size_alloc, World.size_setCell, World.size_drew]; omega) | omega) _ | refine Below.setCell ?_ (by first | exact Nat.le_refl _ | (simp only [World.size_alloc, World.size_setCell, World.size_drew]; omega) | omega) _ | refine Below.drew ?_)) (hb2.mono (by first | (simp only [World.size_alloc, World.size_setCell, World.size_drew]; omega) | omega))⟩

theorem orList_any (s : Int) (w : World) (h0 : 0 ≤ s) (h1 : s < 1024) :
    Calls Try.prog 205 #[.int .i64 s] w fun e w' => ∃ a cap, e = .returned (.slice a (elems s.toNat).length cap) ∧ OwnI w' w.heap.size (.slice a (elems s.toNat).length cap) (elems s.toNat) ∧ Below w.heap.size w w' := by
  obtain ⟨S, rfl⟩ := Int.eq_ofNat_of_zero_le h0
  have hS : S < 1024 := by omega
  obtain ⟨i0, hi, hz0, hz1, hz2⟩ := info_parts infoInt
  have hsh : ∀ k : Nat, (S : Int) / 2 ^ min k 64 = ((S >>> k : Nat) : Int) := fun k => shr_nat S k (by omega)
  have HSH := Lib.hid hsh
  clear hsh
  go_enter Try.func205, Try.ntmps205
  go_wp2_with fail
  go_loopw [3, 4] (fun v i wr => ∃ k : Nat, k ≤ 10 ∧ i = .int .i64 k ∧ wr.ownsRow w.heap.size 3 1 v (elemsTo S k).length ((elemsTo S k).map (Value.int .i64)) ∧ Below w.heap.size w wr) (fun _ i _ => 10 - (intOf i).toNat)
  case atStart => exact ⟨0, by omega, rfl, by simpa [elemsTo] using World.ownsRow_nil _ _ _ _, Below.refl _ _⟩
  case round =>
    obtain ⟨k, hk, rfl, hown, hb⟩ := hrel
    have hln := elemsTo_len S k
    have hsz := hb.size
    have hq := HSH.out k
    rw [show min k 64 = k from by omega] at hq
    by_cases hz : S >>> k = 0
    · have ht : ¬ (0 : Int) < (S : Int) / 2 ^ k := by rw [hq, hz]; omega
      have HZ := Lib.hid hz
      clear hq hz
      go_wp2_with fail
      go_ret
      have e := elems_at HZ.out hk
      rw [e] at hown
      obtain ⟨a, cap, rfl⟩ := OwnI.form hown
      exact ⟨a, cap, rfl, hown, hb⟩
    · have ht : (0 : Int) < (S : Int) / 2 ^ k := by rw [hq]; exact Int.natCast_pos.2 (Nat.pos_of_ne_zero hz)
      have hk9 : k < 10 := by
        rcases Nat.lt_or_ge k 10 with h | h
        · exact h
        · obtain rfl : k = 10 := by omega
          exact absurd (by rw [Nat.shiftRight_eq_div_pow]; exact Nat.div_eq_of_lt (by omega)) hz
      clear hq hz
      have hhas : hasB (S : Int) (k : Int) = S.testBit k := rfl
      cases hin : S.testBit k
      · rw [hin] at hhas
        go_wp2_with (go_at_call 180; refine (orHas_any _ _ _ (by omega) (by omega) (by omega)).mono ?_; rintro e w' ⟨rfl, rfl⟩)
        go_roundw
        case rel => exact ⟨k + 1, by omega, by go_num, by simpa [elemsTo, hin] using hown, hb⟩
        case measure => simp [intOf]; omega
      · rw [hin] at hhas
        go_wp2_with (first | (go_at_call 180; refine (orHas_any _ _ _ (by omega) (by omega) (by omega)).mono ?_; rintro e w' ⟨rfl, rfl⟩) | (at_builtin; refine wpList_append_own _ rfl _ _ 24 rfl w.heap.size 3 i0 (.int .i64 0) 1 8 Try.underlying24 hi hz0 hz1 hz2 rfl (by decide) _ _ _ rfl (hown.alloc _) ⟨wr.heap.size, 0, none⟩ 1 1 [.int .i64 k] rfl rfl ?c1 ?c2 ?c3 ?c4 ?c5 ?_))
        case c1 =>
          intro j u hj
          match j, hj with
          | 0, hj => simp at hj; subst hj; simp [Addr.add]
        case c2 => intro u hu; simp at hu; subst hu; rfl
        case c3 => unfold maxLen; omega
        case c4 => omega
        case c5 => simp; omega
        · intro v' w1 hown' hgrow _
          have hlt := World.ownsRow.lt hown
          have hb1 : Below w.heap.size w w1 := (hb.alloc hsz _).grown hgrow (by simp; omega) (fun b e => (hlt b e).1)
          have HO := Lib.hid hown'
          clear hown' hgrow hown
          go_wp2_with fail
          go_roundw
          case rel => exact ⟨k + 1, by omega, by go_num, by simpa [elemsTo, hin] using HO.out, hb1⟩
          case measure => simp [intOf]; omega

theorem elem_at {n : Int} {xs : List Int} (hp : RelP n xs) {k : Nat} (hk : k < xs.length) {m : Nat} (hm : m < (elems (nth xs k).toNat).length) :
    ∃ i : Nat, i < xs.length ∧ hasB (nth xs k) i = true ∧ nth (elems (nth xs k).toNat) m = (i : Int) := by
  have h1 := hp.small k hk
  have h0 := hp.pos k hk
  obtain ⟨i, hb, e⟩ := (mem_elems (by omega)).1 (nth_mem hm)
  exact ⟨i, has_lt hp hk hb, hb, e⟩
theorem at_elem {n : Int} {xs : List Int} (hp : RelP n xs) {k : Nat} (hk : k < xs.length) {j : Nat} (h : hasB (nth xs k) j = true) :
    ∃ m, m < (elems (nth xs k).toNat).length ∧ nth (elems (nth xs k).toNat) m = (j : Int) := by
  have h1 := hp.small k hk
  have h0 := hp.pos k hk
  have : (j : Int) ∈ elems (nth xs k).toNat := (mem_elems (by omega)).2 ⟨j, h, rfl⟩
  obtain ⟨m, hm, e⟩ := mem_nth this
  exact ⟨m, hm, e⟩
theorem orGood_any (n : Int) (a : Option Addr) (xs : List Int) (cap : Nat) (w : World) (hx : Rd w a xs) :
    Calls Try.prog 132 #[.agg #[.int .i64 n, .slice a xs.length cap]] w fun e w' => e = .returned (.bool (ordB n xs)) ∧ Below w.heap.size w w' := by
  have hx1 := hx.alloc (.cells #[.int .i64 n, .slice a xs.length cap] 45)
  have hlen := hx.len
  cases hr : relB n xs
  · have HR : Hid (ordB n xs = false) := by simp [Hid, ordB, hr]
    go_enter Try.func132, Try.ntmps132
    go_wp2_with fail
    refine (orRelation_any _ _ _ _ _ hx1).mono ?_
    rintro e w1 ⟨rfl, hb1⟩
    go_wp2_with fail
    go_ret
    exact ⟨ret_bool HR.out.symm, Below.trans (by repeat (first | exact Below.refl _ _ | assumption | refine Below.alloc ?_ (by first | exact Nat.le_refl _ | (simp only [World.size_alloc, World.size_setCell, World.size_drew]; omega) | omega) _ | refine Below.setCell ?_ (by first | exact Nat.le_refl _ | (simp only [World.size_alloc, World.size_setCell, World.size_drew]; omega) | omega) _ | refine Below.drew ?_)) (hb1.mono (by first | (simp only [World.size_alloc, World.size_setCell, World.size_drew]; omega) | omega))⟩
  · have hp := relB_p hr
    go_enter Try.func132, Try.ntmps132
    go_wp2_with fail
    refine (orRelation_any _ _ _ _ _ hx1).mono ?_
    rintro e w1 ⟨rfl, hb1⟩
    have B1 := (Box2.new w _ _ _).below hb1
    have ⟨z1, c1, d1⟩ := B1
    have bw1 : Below w.heap.size w w1 := Below.trans (by repeat (first | exact Below.refl _ _ | assumption | refine Below.alloc ?_ (by first | exact Nat.le_refl _ | (simp only [World.size_alloc, World.size_setCell, World.size_drew]; omega) | omega) _ | refine Below.setCell ?_ (by first | exact Nat.le_refl _ | (simp only [World.size_alloc, World.size_setCell, World.size_drew]; omega) | omega) _ | refine Below.drew ?_)) (hb1.mono (by first | (simp only [World.size_alloc, World.size_setCell, World.size_drew]; omega) | omega))
    have HR := Lib.hid hr
    clear hb1
    go_wp2_with fail
    clear hr
    go_loopw [13] (fun i wr => ∃ k : Nat, k ≤ xs.length ∧ i = .int .i64 k ∧ (∀ j, j < k → okAtB xs j = true) ∧ Below w1.heap.size w1 wr) (fun i _ => xs.length - (intOf i).toNat)
    case atStart => exact ⟨0, Nat.zero_le _, rfl, fun j hj => by omega, Below.refl _ _⟩
    case round =>
      obtain ⟨k, hk, rfl, hall, hb⟩ := hrel
      have Br := B1.below hb
      have ⟨zr, cr, dr⟩ := Br
      have bwr := bw1.trans (hb.mono bw1.size)
      have HA := Lib.hid hall
      clear hall c1 d1
      by_cases hlt : k < xs.length
      · obtain ⟨b, off, rfl, hbl, hc⟩ := (hx.below bwr).cell k hlt
        have hpk := hp.pos k hlt
        have hsk := hp.small k hlt
        have hsk' : nth xs k ≤ 9223372036854775807 := by omega
        cases hin : hasB (nth xs k) k
        · go_wp2_with fail
          refine (orHas_any _ _ _ hpk hsk' (by omega)).mono ?_
          rintro e w' ⟨rfl, rfl⟩
          go_wp2_with fail
          refine (orList_any _ _ hpk hsk).mono ?_
          rintro e w2 ⟨a2, cap2, rfl, ho2, hb2⟩
          have ⟨z2, c2, d2⟩ := Br.below hb2
          have bw2 := bwr.trans (hb2.mono bwr.size)
          have hx2 := hx.below bw2
          have hr2 := ho2.rd
          have bk2 := hb.trans (hb2.mono hb.size)
          have hel := elems_len (nth xs k).toNat
          have HI := Lib.hid hin
          clear hin cr dr hc
          obtain ⟨es, hes⟩ : ∃ es, es = elems (nth xs k).toNat := ⟨_, rfl⟩
          rw [← hes] at ho2 hr2 hel
          have HES := Lib.hid hes
          rw [← hes]
          clear hes ho2 hb2
          go_wp2_with fail
          go_loop [24] (fun i => ∃ j : Nat, j ≤ es.length ∧ i = .int .i64 j ∧ (∀ m, m < j → sub (nth xs (nth es m).toNat).toNat (nth xs k).toNat = 0)) (fun i => es.length - (intOf i).toNat)
          case atStart => exact ⟨0, Nat.zero_le _, rfl, fun m hm => by omega⟩
          case round =>
            obtain ⟨j, hj, rfl, hin2⟩ := hrel
            have HIN := Lib.hid hin2
            clear hin2
            by_cases hjl : j < es.length
            · obtain ⟨b2, off2, rfl, hbl2, hc2⟩ := hr2.cell j hjl
              obtain ⟨i, hil, hib, hie⟩ : ∃ i : Nat, i < xs.length ∧ hasB (nth xs k) i = true ∧ nth es j = (i : Int) := by
                have := elem_at hp hlt (m := j) (by rw [← HES.out]; exact hjl)
                rw [← HES.out] at this
                exact this
              obtain ⟨b3, off3, e3, hbl3, hc3⟩ := hx2.cell i hil
              simp only [Option.some.injEq, Addr.mk.injEq, and_true] at e3
              obtain ⟨rfl, rfl⟩ := e3
              have hpi := hp.pos i hil
              have hsi := hp.small i hil
              have hsub := sub_i (a := nth xs i) (b := nth xs k) hpi (by omega) hpk (by omega)
              have HB := Lib.hid hib
              have HE := Lib.hid hie
              rw [hie] at hc2
              clear hib hie
              by_cases hz : sub (nth xs i).toNat (nth xs k).toNat = 0
              · have hne : (bits BinOp.andNot IntKind.i64 (nth xs i) (nth xs k) != 0) = false := by rw [hsub, hz]; rfl
                have HZ := Lib.hid hz
                clear hz hsub
                go_wp2_with fail
                go_round
                case rel =>
                  refine ⟨j + 1, by omega, by go_num, fun m hm => ?_⟩
                  by_cases e : m = j
                  · rw [e, HE.out, Int.toNat_natCast]; exact HZ.out
                  · exact HIN.out m (by omega)
                case measure => simp [intOf]; omega
              · have hne : (bits BinOp.andNot IntKind.i64 (nth xs i) (nth xs k) != 0) = true := by rw [hsub]; simp; omega
                have HN := Lib.hid (ordB_no (n := n) hlt (okAtB_sub hil HB.out hz))
                clear hz hsub
                go_wp2_with fail
                go_ret
                exact ⟨ret_bool HN.out.symm, bw2⟩
            · obtain rfl : j = es.length := by omega
              have hok : okAtB xs k = true := by
                rw [okAtB_iff]
                refine ⟨HI.out, fun j hj hbj => ?_⟩
                obtain ⟨m, hm, e⟩ := at_elem hp hlt hbj
                rw [← HES.out] at hm e
                have := HIN.out m hm
                rwa [e, Int.toNat_natCast] at this
              have HK := Lib.hid hok
              clear hok
              go_wp2_with fail
              go_roundw
              case rel =>
                refine ⟨k + 1, by omega, by go_num, fun j hj => ?_, bk2⟩
                by_cases e : j = k
                · rw [e]; exact HK.out
                · exact HA.out j (by omega)
              case measure => simp [intOf]; omega
        · have HN := Lib.hid (ordB_no (n := n) hlt (okAtB_has hin))
          go_wp2_with fail
          refine (orHas_any _ _ _ hpk hsk' (by omega)).mono ?_
          rintro e w' ⟨rfl, rfl⟩
          go_wp2_with fail
          go_ret
          exact ⟨ret_bool HN.out.symm, bwr⟩
      · obtain rfl : k = xs.length := by omega
        go_wp2_with fail
        go_ret
        exact ⟨ret_bool (ordB_iff.2 ⟨HR.out, HA.out⟩).symm, bwr⟩

theorem ivGoodOrder_any (n : Int) (a : Option Addr) (xs : List Int) (cap : Nat) (w : World) (hx : Rd w a xs) :
    Calls Try.prog 138 #[.agg #[.int .i64 n, .slice a xs.length cap]] w fun e w' => e = .returned (.bool (isIv n xs)) ∧ Below w.heap.size w w' := by
  have hx1 := hx.alloc (.cells #[.int .i64 n, .slice a xs.length cap] 45)
  cases hr : ordB n xs
  · have H1 : Hid (isIv n xs = false) := by simp [Hid, isIv, hr]
    go_enter Try.func138, Try.ntmps138
    go_wp2_with fail
    refine (orGood_any _ _ _ _ _ hx1).mono ?_
    rw [hr]
    rintro e w1 ⟨rfl, hb1⟩
    have bw1 : Below w.heap.size w w1 := Below.trans (by repeat (first | exact Below.refl _ _ | assumption | refine Below.alloc ?_ (by first | exact Nat.le_refl _ | (simp only [World.size_alloc, World.size_setCell, World.size_drew]; omega) | omega) _ | refine Below.setCell ?_ (by first | exact Nat.le_refl _ | (simp only [World.size_alloc, World.size_setCell, World.size_drew]; omega) | omega) _ | refine Below.drew ?_)) (hb1.mono (by first | (simp only [World.size_alloc, World.size_setCell, World.size_drew]; omega) | omega))
    go_wp2_with fail
    go_ret
    exact ⟨ret_bool H1.out.symm, bw1⟩
  · have hp := ord_rel hr
    have H1 : Hid (isIv n xs = !(twoF xs).isSome) := by simp [Hid, isIv, hr]
    go_enter Try.func138, Try.ntmps138
    go_wp2_with fail
    refine (orGood_any _ _ _ _ _ hx1).mono ?_
    rw [hr]
    rintro e w1 ⟨rfl, hb1⟩
    have A1 : Box2 w1 w.heap.size (.int .i64 n) (.slice a xs.length cap) := (Box2.new w _ _ _).below hb1
    have bw1 : Below w.heap.size w w1 := Below.trans (by repeat (first | exact Below.refl _ _ | assumption | refine Below.alloc ?_ (by first | exact Nat.le_refl _ | (simp only [World.size_alloc, World.size_setCell, World.size_drew]; omega) | omega) _ | refine Below.setCell ?_ (by first | exact Nat.le_refl _ | (simp only [World.size_alloc, World.size_setCell, World.size_drew]; omega) | omega) _ | refine Below.drew ?_)) (hb1.mono (by first | (simp only [World.size_alloc, World.size_setCell, World.size_drew]; omega) | omega))
    have ⟨zA, cA, dA⟩ := A1
    clear hb1 hr
    go_wp2_with fail
    refine (ivIs_any _ _ _ _ _ (hx.below bw1) hp).mono ?_
    rintro e w2 ⟨rfl, hb2⟩
    go_wp2_with fail
    go_ret
    exact ⟨ret_bool (by rw [H1.out]; cases twoF xs <;> rfl), bw1.trans (hb2.mono bw1.size)⟩

theorem sMxOrd_any (n : Int) (a : Option Addr) (xs : List Int) (cap : Nat) (w : World) (hn : -9223372036854775808 ≤ n ∧ n ≤ 9223372036854775807) (hx : Rd w a xs) :
    Calls Try.prog 65 #[.agg #[.int .i64 n, .slice a xs.length cap]] w fun e w' => ∃ a0 c0 vl, e = .returned (.tuple #[.agg #[.slice a0 (moL n xs).length c0], .bool (isIv n xs)]) ∧ RowsP w' w.heap.size (.slice a0 (moL n xs).length c0) vl (moL n xs) ∧ Below w.heap.size w w' := by
  have hlen := hx.len
  have hV := Var1.new (w.alloc (.cells #[.int .i64 n, .slice a xs.length cap] 45)) (.slice none 0 0) 40
  have hb0 : Below w.heap.size w ((w.alloc (.cells #[.int .i64 n, .slice a xs.length cap] 45)).alloc (.cells #[.slice none 0 0] 40)) := (by repeat (first | exact Below.refl _ _ | assumption | refine Below.alloc ?_ (by first | exact Nat.le_refl _ | (simp only [World.size_alloc, World.size_setCell, World.size_drew]; omega) | omega) _ | refine Below.setCell ?_ (by first | exact Nat.le_refl _ | (simp only [World.size_alloc, World.size_setCell, World.size_drew]; omega) | omega) _ | refine Below.drew ?_))
  have hA := (Box2.new w (.int .i64 n) (.slice a xs.length cap) 45).below ((Below.refl _ _).alloc (Nat.le_refl _) (.cells #[.slice none 0 0] 40))
  rw [World.size_alloc] at hV
  cases hm : isIv n xs
  · have HM := Lib.hid hm
    have H1 : Hid (moL n xs = []) := by simp [Hid, moL, hm]
    clear hm
    go_enter Try.func65, Try.ntmps65
    go_wp2_with fail
    refine (ivGoodOrder_any _ _ _ _ _ (hx.below hb0)).mono ?_
    rintro e w1 ⟨rfl, hb⟩
    rw [HM.out]
    have b1 : Below w.heap.size w w1 := hb0.trans (hb.mono (by simp; omega))
    have hV1 := hV.below hb
    have ⟨⟨zV, cV⟩, fV⟩ := hV1
    clear hb hV
    go_wp2_with fail
    have hV2 := hV1.set (.slice none 0 0)
    have b2 := b1.setCell (p := ⟨w.heap.size + 1, 0, none⟩) (by simp) (.slice none 0 0)
    refine bodyPost_ret (v := .tuple #[.agg #[.slice none 0 0], .bool false]) (by have ⟨⟨_, q1⟩, _⟩ := hV2; simp [results, Try.results65, go_sem, q1]) rfl ?_
    exact ⟨none, 0, [], by rw [H1.out]; rfl, by rw [H1.out]; exact RowsP.nil _ _, b2⟩
  · have HM := Lib.hid hm
    have H1 : Hid (moL n xs = sqM (cntE xs xs.length) (sets xs).length (sets xs).length) := by rw [Hid, moL, if_pos hm]
    have HX := Lib.hid hx
    have HC := Lib.hid (fun W (h : Rd W a xs) => maOfOrd_any n a xs cap W h hm)
    have HSL : Hid ((moL n xs).length = (sets xs).length) := by rw [Hid, H1.out, sqM_len]
    obtain ⟨D, hD⟩ : ∃ D, D = (sets xs).length := ⟨_, rfl⟩
    have HD : Hid (D = (sets xs).length) := hD
    rw [← hD] at HC HSL H1
    clear hm hx hD
    go_enter Try.func65, Try.ntmps65
    go_wp2_with fail
    refine (ivGoodOrder_any _ _ _ _ _ (HX.out.below hb0)).mono ?_
    rintro e w1 ⟨rfl, hb⟩
    rw [HM.out]
    have b1 : Below w.heap.size w w1 := hb0.trans (hb.mono (by simp; omega))
    have hV1 := hV.below hb
    have hA1 := hA.below hb
    have ⟨zA, cA, dA⟩ := hA1
    have hz1 : w.heap.size + 2 ≤ w1.heap.size := by have := hb.size; simp at this; omega
    have HV1 := Lib.hid hV1
    clear hb hV hb0 hV1 hA hA1
    go_wp2_with fail
    refine (HC.out _ (HX.out.below b1)).mono ?_
    rintro e w2 ⟨a0, c0, vl, rfl, hro, hb2⟩
    have b2 := b1.trans (hb2.mono b1.size)
    have hV2 := HV1.out.below hb2
    have ⟨⟨zV, cV⟩, fV⟩ := hV2
    have HV2 := Lib.hid hV2
    have HRO := Lib.hid hro
    clear hV2 hro hb2 HV1
    go_wp2_with fail
    have hV3 := HV2.out.set (.slice a0 D c0)
    have b3 := b2.setCell (p := ⟨w.heap.size + 1, 0, none⟩) (by simp) (.slice a0 D c0)
    refine bodyPost_ret (v := .tuple #[.agg #[.slice a0 D c0], .bool true]) (by have ⟨⟨_, q1⟩, _⟩ := hV3; simp [results, Try.results65, go_sem, q1]) rfl ?_
    exact ⟨a0, c0, vl, by rw [HSL.out], by rw [HSL.out, H1.out]; exact (HRO.out.setBelow (show w.heap.size + 1 < w1.heap.size by omega) _).mono (by omega), b3⟩

theorem colsL_sq (xss : List (List Int)) : colsL xss = sqM (fun a b => atM xss b a) xss.length xss.length := rfl

def colF (xss : List (List Int)) (k q : Nat) (a b : Nat) : Int := if b < k ∨ (b = k ∧ a < q) then atM xss b a else 0
theorem colF_end {xss : List (List Int)} {n : Nat} : sqM (colF xss n 0) n n = sqM (fun a b => atM xss b a) n n :=
  sqM_congr (fun a ha b hb => by rw [colF, if_pos (.inl hb)])
theorem colF_next {xss : List (List Int)} {n k : Nat} : sqM (colF xss k n) n n = sqM (colF xss (k+1) 0) n n :=
  sqM_congr (fun a ha b hb => by
    rw [colF, colF]
    by_cases h : b < k + 1
    · rw [if_pos (by omega), if_pos (.inl h)]
    · rw [if_neg (by omega), if_neg (by omega)])
theorem colF_zero {xss : List (List Int)} {n : Nat} : sqM (fun _ _ => 0) n n = sqM (colF xss 0 0) n n :=
  sqM_congr (fun a ha b hb => by rw [colF, if_neg (by omega)])
theorem colF_step {xss : List (List Int)} {n k q : Nat} (hk : k < n) (hq : q < n) : setM (sqM (colF xss k q) n n) q k (atM xss k q) = sqM (colF xss k (q+1)) n n := by
  rw [setM_sq hq hk]
  refine sqM_congr (fun a ha b hb => ?_)
  rw [colF, colF]
  by_cases h : a = q ∧ b = k
  · obtain ⟨rfl, rfl⟩ := h
    rw [if_pos ⟨rfl, rfl⟩, if_pos (.inr ⟨rfl, by omega⟩)]
  · rw [if_neg h]
    by_cases h2 : b < k ∨ (b = k ∧ a < q)
    · rw [if_pos h2, if_pos (by omega)]
    · rw [if_neg h2, if_neg (by omega)]
set_option maxRecDepth 100000 in
set_option maxHeartbeats 1000000 in
theorem columnsOf_any (a : Option Addr) (xss : List (List Int)) (cap : Nat) (w : World) (hx : RdS w a xss) (h12 : xss.length ≤ 12) (hl : ∀ k, k < xss.length → (rowL xss k).length = xss.length) :
    Calls Try.prog 140 #[.agg #[.slice a xss.length cap]] w fun e w' => ∃ g vl, e = .returned (.slice (some ⟨g, 0, none⟩) xss.length xss.length) ∧ RowsP w' w.heap.size (.slice (some ⟨g, 0, none⟩) xss.length xss.length) vl (colsL xss) ∧ Below w.heap.size w w' := by
  have hlen := hx.len
  have HX := Lib.hid hx
  have HL := Lib.hid hl
  clear hx hl
  go_enter Try.func140, Try.ntmps140
  go_wp2_with fail
  refine (zeroRows_any xss.length _ h12).mono ?_
  rintro e w1 ⟨g, vl0, rfl, hro0, hb0⟩
  have b1 : Below w.heap.size w w1 := Below.trans (by repeat (first | exact Below.refl _ _ | assumption | refine Below.alloc ?_ (by first | exact Nat.le_refl _ | (simp only [World.size_alloc, World.size_setCell, World.size_drew]; omega) | omega) _ | refine Below.setCell ?_ (by first | exact Nat.le_refl _ | (simp only [World.size_alloc, World.size_setCell, World.size_drew]; omega) | omega) _ | refine Below.drew ?_)) (hb0.mono (by first | (simp only [World.size_alloc, World.size_setCell, World.size_drew]; omega) | omega))
  have hro1 := hro0.mono (B' := w.heap.size) (by simp)
  rw [colF_zero (xss := xss)] at hro1
  have hc0 := (hb0.cell (p := ⟨w.heap.size, 0, none⟩) (by simp)).trans (show _ = some (Value.slice a xss.length cap) by simp)
  have hs1 := b1.size
  obtain ⟨N, hN⟩ : ∃ N, N = xss.length := ⟨_, rfl⟩
  have HN := Lib.hid hN
  rw [← hN] at hlen h12 hro1 hc0 ⊢
  have HRO := Lib.hid hro1
  clear hro0 hro1 hb0 hN
  go_wp2_with fail
  go_loopw [15] (fun i wr => ∃ (k : Nat) (vl : List Value), k ≤ N ∧ i = .int .i64 k ∧ RowsP wr w.heap.size (.slice (some ⟨g, 0, none⟩) N N) vl (sqM (colF xss k 0) N N) ∧ Below w.heap.size w wr) (fun i _ => N - (intOf i).toNat)
  case atStart => exact ⟨0, _, Nat.zero_le _, rfl, HRO.out, b1⟩
  case round =>
    obtain ⟨k, vl, hk, rfl, hro, hb⟩ := hrel
    have hbs := hb.size
    have HR := Lib.hid hro
    clear hro
    by_cases hlt : k < N
    · obtain ⟨b, off, a', cap', rfl, hbl, hc, hr⟩ := HX.out.row k (by rw [← HN.out]; exact hlt)
      have hrn := HL.out k (by rw [← HN.out]; exact hlt)
      rw [← HN.out] at hrn
      obtain ⟨b2, off2, rfl, hbl2, hc2⟩ := hr.cell 0 (by omega)
      rw [hrn] at hc
      have hc1 := (hb.cell (p := ⟨b, off + k, none⟩) hbl).trans hc
      have HRN := Lib.hid hrn
      have HRD := Lib.hid hr
      have hbl1 : b < wr.heap.size := by omega
      have k1 : (k : Int) < (N : Int) := by omega
      clear hrn hr hc2 hc
      go_wp2_with fail
      go_loopw [22] (fun i wq => ∃ (q : Nat) (vl : List Value), q ≤ N ∧ i = .int .i64 q ∧ RowsP wq w.heap.size (.slice (some ⟨g, 0, none⟩) N N) vl (sqM (colF xss k q) N N) ∧ Below w.heap.size w wq) (fun i _ => N - (intOf i).toNat)
      case atStart => exact ⟨0, _, Nat.zero_le _, rfl, HR.out, hb⟩
      case round =>
        obtain ⟨q, vl2, hq, rfl, hro2, hb2⟩ := hrel
        by_cases hlt2 : q < N
        · obtain ⟨b3, off3, e3, hbl3, hc3⟩ := (HRD.out.below hb2).cell q (by rw [HRN.out]; exact hlt2)
          simp only [Option.some.injEq, Addr.mk.injEq, and_true] at e3
          obtain ⟨rfl, rfl⟩ := e3
          obtain ⟨g4, e4, hg4, hg5, hc4, hf4⟩ := hro2.outer (k := q) (by rw [sqM_len]; exact hlt2)
          simp only [Option.some.injEq, Addr.mk.injEq, and_true] at e4
          subst e4
          obtain ⟨g6, c6, e6, hg6, hg7, hc6, hf6, hnew⟩ := hro2.num (i := q) (j := k) (by rw [sqM_len]; exact hlt2) (by rw [sqM_rlen hlt2]; exact hlt)
          have hn2 := hnew (atM xss k q)
          rw [colF_step hlt hlt2] at hn2
          rw [e6, sqM_rlen hlt2] at hc4
          have HN2 := Lib.hid hn2
          have q1 : (q : Int) < (N : Int) := by omega
          have hat : nth (rowL xss k) q = atM xss k q := rfl
          rw [hat] at hc3
          have b7 := hb2.setCell (p := ⟨g6, k, none⟩) hg6 (.int .i64 (atM xss k q))
          clear hro2 hnew hn2 hat e6
          go_wp2_with fail
          go_roundw
          case rel => exact ⟨q + 1, vl2, by omega, by go_num, HN2.out, b7⟩
          case measure => simp [intOf]; omega
        · obtain rfl : q = N := by omega
          rw [colF_next] at hro2
          go_wp2_with fail
          go_roundw
          case rel => exact ⟨k + 1, _, by omega, by go_num, hro2, hb2⟩
          case measure => simp [intOf]; omega
    · obtain rfl : k = N := by omega
      have HR2 := HR.out
      rw [colF_end] at HR2
      have HE : Hid (colsL xss = sqM (fun a b => atM xss b a) k k) := by rw [Hid, colsL_sq, ← HN.out]
      have HR3 := Lib.hid HR2
      clear HR2
      go_wp2_with fail
      go_ret
      exact ⟨g, vl, by rw [← HN.out]; rfl, by rw [HE.out, ← HN.out]; exact HR3.out, hb⟩

def Sh_lays112_ren : Go.Shelf.Ren := ⟨fun | 112 => 142 | n => n, fun | 28 => 24 | 3 => 3 | 4 => 4 | 0 => 0 | n => n, fun | n => n⟩
theorem Sh_lays112 : Go.Proofs.Lays.n112 Try.prog Sh_lays112_ren := {
  mixed := by kernel_rfl
  f112 := Try.func142.trans (congrArg some (by kernel_rfl))
  t0 := Try.underlying0
  a0 := Try.isAgg0
  z0 := Try.sizeOf0
  v0 := Try.zeroValue0
  t3 := Try.underlying3
  a3 := Try.isAgg3
  z3 := Try.sizeOf3
  v3 := Try.zeroValue3
  t4 := Try.underlying4
  a4 := Try.isAgg4
  z4 := Try.sizeOf4
  v4 := Try.zeroValue4
  t28 := Try.underlying24
  a28 := Try.isAgg24
  z28 := Try.sizeOf24
  v28 := Try.zeroValue24 }

open Go.RowKit Go.Lib Go.Sort in
theorem Sh_slices_Reverse_int (blk off cap : Nat) (zs : List Int) (w : World) (hH : Holds (Value.int .i64) w blk off zs.toArray) (hsz : zs.length ≤ 9223372036854775807) :
    Calls Try.prog 142 #[.slice (some ⟨blk, off, none⟩) zs.length cap] w fun e w' => e = .returned (.tuple #[]) ∧ ∃ n, w' = putRow (Value.int .i64) (Sort.ahead w n) blk off zs.reverse.toArray := Any.slices_Reverse_int Sh_lays112 blk off cap zs w hH hsz

open Go.RowKit Go.Lib Go.Sort in
theorem Sh_slices_Reverse_int_empty (a : Option Addr) (cap : Nat) (w : World) :
    Calls Try.prog 142 #[.slice a 0 cap] w fun e w' => e = .returned (.tuple #[]) ∧ w' = w := Any.slices_Reverse_int_empty Sh_lays112 a cap w

theorem revOwn (a : Option Addr) (cap : Nat) (xs : List Int) (B : Nat) (w : World) (ho : OwnI w B (.slice a xs.length cap) xs) :
    Calls Try.prog 142 #[.slice a xs.length cap] w fun e w' => e = .returned (.tuple #[]) ∧ OwnI w' B (.slice a xs.length cap) xs.reverse ∧ w.grownBy w' (Value.slice a xs.length cap).ownBlock := by
  rcases ho.2 with ⟨e0, h0⟩ | ⟨g, cap', cur, e0, hbase, hb, h1, h2, h3, h4⟩
  · have hx : xs = [] := List.length_eq_zero_iff.1 h0
    subst hx
    refine (Sh_slices_Reverse_int_empty a cap w).mono ?_
    rintro e w' ⟨rfl, rfl⟩
    exact ⟨rfl, ho, World.grownBy.refl _ _⟩
  · simp only [Value.slice.injEq] at e0
    obtain ⟨rfl, -, rfl⟩ := e0
    have hh := Go.holds_of_blockI (ss := xs) hb (by simpa using h4)
    refine (Sh_slices_Reverse_int g 0 cap xs w hh (by unfold maxLen at h2; omega)).mono ?_
    rintro e w' ⟨rfl, nn, rfl⟩
    have hg := Go.grownBy_sortedI (w := w) (g := g) (n := nn) (os := #[]) xs.reverse.toArray
    have ho := Go.ownsRow_sortedI (n := nn) (os := #[]) (ss := xs) (ts := xs.reverse) (by simp) hbase hb h1 h2 h3
    rw [Go.Sort.grow_empty] at hg ho
    refine ⟨rfl, ?_, hg⟩
    unfold OwnI
    rw [List.length_reverse]
    exact ho

/-- the first k of n rows, and rows of nil behind them -/
def nTo (xss : List (List Int)) (n k : Nat) : List (List Int) := (List.range n).map fun i => if i < k then rowL xss i else []
def nVal (vl : List Value) (n k : Nat) : List Value := (List.range n).map fun i => if i < k then valAt vl i else .slice none 0 0
theorem nVal_len (vl : List Value) (n k : Nat) : (nVal vl n k).length = n := by simp [nVal]
theorem nVal_at {vl : List Value} {n k i : Nat} (h : i < n) : valAt (nVal vl n k) i = if i < k then valAt vl i else .slice none 0 0 := by simp [valAt, nVal, List.getD_eq_getElem?_getD, h]
theorem nVal_zero (vl : List Value) (n : Nat) : nVal vl n 0 = List.replicate n (.slice none 0 0) := by
  apply List.ext_getElem?
  intro i
  by_cases h : i < n <;> simp [nVal, h]
theorem nVal_step {vl : List Value} {n k : Nat} (h : k < n) : (nVal vl n k).set k (valAt vl k) = nVal vl n (k+1) := by
  apply List.ext_getElem?
  intro i
  rw [List.getElem?_set]
  by_cases e : k = i
  · subst e
    rw [if_pos rfl, if_pos (by rw [nVal_len]; exact h), valAt_get (by rw [nVal_len]; exact h), nVal_at h, if_pos (by omega)]
  · rw [if_neg e]
    by_cases hi : i < n
    · rw [valAt_get (by rw [nVal_len]; exact hi), valAt_get (by rw [nVal_len]; exact hi), nVal_at hi, nVal_at hi]
      by_cases h2 : i < k
      · rw [if_pos h2, if_pos (by omega)]
      · rw [if_neg h2, if_neg (by omega)]
    · rw [List.getElem?_eq_none (by rw [nVal_len]; omega), List.getElem?_eq_none (by rw [nVal_len]; omega)]
theorem nVal_end {vl : List Value} {n : Nat} (h : vl.length = n) : nVal vl n n = vl := by
  apply List.ext_getElem?
  intro i
  by_cases hi : i < n
  · rw [valAt_get (by rw [nVal_len]; exact hi), valAt_get (by omega), nVal_at hi, if_pos hi]
  · rw [List.getElem?_eq_none (by rw [nVal_len]; omega), List.getElem?_eq_none (by omega)]

def revV (vl : List Value) (n k : Nat) : List Value := (List.range n).map fun i => if i < k ∨ n ≤ i + k then valAt vl (n - 1 - i) else valAt vl i
theorem revV_len (vl : List Value) (n k : Nat) : (revV vl n k).length = n := by simp [revV]
theorem revV_at {vl : List Value} {n k i : Nat} (h : i < n) : valAt (revV vl n k) i = if i < k ∨ n ≤ i + k then valAt vl (n - 1 - i) else valAt vl i := by simp [valAt, revV, List.getD_eq_getElem?_getD, h]
theorem vals_ext {vl ul : List Value} (hl : vl.length = ul.length) (h : ∀ i, i < vl.length → valAt vl i = valAt ul i) : vl = ul := by
  apply List.ext_getElem?
  intro i
  by_cases hi : i < vl.length
  · rw [valAt_get hi, valAt_get (by omega), h i hi]
  · rw [List.getElem?_eq_none (by omega), List.getElem?_eq_none (by omega)]
theorem valAt_set {vl : List Value} {k j : Nat} {u : Value} (hk : k < vl.length) : valAt (vl.set k u) j = if j = k then u else valAt vl j := by
  simp only [valAt, List.getD_eq_getElem?_getD, List.getElem?_set]
  by_cases e : k = j
  · subst e; simp [hk]
  · simp [e, Ne.symm e]
theorem revV_zero {vl : List Value} : revV vl vl.length 0 = vl :=
  vals_ext (revV_len _ _ _) (fun i hi => by rw [revV_len] at hi; rw [revV_at hi, if_neg (by omega)])
theorem revV_step {vl : List Value} {n k : Nat} (h : 2 * k + 1 < n) : ((revV vl n k).set k (valAt vl (n - 1 - k))).set (n - 1 - k) (valAt vl k) = revV vl n (k+1) := by
  refine vals_ext (by simp [revV]) (fun i hi => ?_)
  rw [List.length_set, List.length_set, revV_len] at hi
  rw [valAt_set (by rw [List.length_set, revV_len]; omega), valAt_set (by rw [revV_len]; omega), revV_at hi, revV_at hi]
  by_cases e1 : i = n - 1 - k
  · rw [if_pos e1, if_pos (by omega)]
    congr 1; omega
  · rw [if_neg e1]
    by_cases e2 : i = k
    · rw [if_pos e2, if_pos (by omega), e2]
    · rw [if_neg e2]
      by_cases e3 : i < k ∨ n ≤ i + k
      · rw [if_pos e3, if_pos (by omega)]
      · rw [if_neg e3, if_neg (by omega)]
theorem revV_end {vl : List Value} {k : Nat} (h : vl.length ≤ 2 * k + 1) : revV vl vl.length k = vl.reverse := by
  refine vals_ext (by simp [revV]) (fun i hi => ?_)
  rw [revV_len] at hi
  have hr : valAt vl.reverse i = valAt vl (vl.length - 1 - i) := by
    simp [valAt, List.getD_eq_getElem?_getD, List.getElem?_reverse hi]
  rw [revV_at hi, hr]
  split
  · rfl
  · congr 1; omega

set_option maxRecDepth 100000 in
theorem revRows_any (g n c B : Nat) (vl : List Value) (w : World) (h : w.ownsRow B 24 1 (.slice (some ⟨g, 0, none⟩) n c) n vl) (hsl : ∀ i, i < n → ∃ a m c, valAt vl i = .slice a m c) (hn : n ≤ 1048576) :
    Calls Try.prog 141 #[.slice (some ⟨g, 0, none⟩) n c] w fun e w' => e = .returned (.tuple #[]) ∧ w'.ownsRow B 24 1 (.slice (some ⟨g, 0, none⟩) n c) n vl.reverse ∧ w.grownBy w' (some g) := by
  have hl : vl.length = n := by have := h.1; omega
  have H := Lib.hid h
  have HSL := Lib.hid hsl
  have HL := Lib.hid hl
  clear h hsl hl
  go_enter Try.func141, Try.ntmps141
  go_wp2_with fail
  go_loopw [2, 3] (fun i j wr => ∃ k : Nat, 2 * k ≤ n ∧ i = .int .i64 k ∧ j = .int .i64 ((n : Int) - 1 - (k : Int)) ∧ wr.ownsRow B 24 1 (.slice (some ⟨g, 0, none⟩) n c) n (revV vl n k) ∧ w.grownBy wr (some g)) (fun i _ _ => n - (intOf i).toNat)
  case atStart => exact ⟨0, by omega, rfl, by simp, by have h := H.out; rw [← revV_zero (vl := vl), HL.out] at h; exact h, World.grownBy.refl _ _⟩
  case round =>
    obtain ⟨k, hk, rfl, rfl, hown, hg⟩ := hrel
    by_cases hlt : 2 * k + 1 < n
    · have k1 : (k : Int) < (n : Int) - 1 - (k : Int) := by omega
      have hcast : ((n : Int) - 1 - (k : Int)) = ((n - 1 - k : Nat) : Int) := by omega
      have e1 : valAt (revV vl n k) k = valAt vl k := by rw [revV_at (by omega), if_neg (by omega)]
      have e2 : valAt (revV vl n k) (n - 1 - k) = valAt vl (n - 1 - k) := by rw [revV_at (by omega), if_neg (by omega)]
      obtain ⟨a1, m1, c1, h1⟩ := HSL.out k (by omega)
      obtain ⟨a2, m2, c2, h2⟩ := HSL.out (n - 1 - k) (by omega)
      have hc1 := World.ownsRow.cellAt hown k (by omega)
      have hc2 := World.ownsRow.cellAt hown (n - 1 - k) (by omega)
      rw [valAt_get (by rw [revV_len]; omega), e1, h1] at hc1
      rw [valAt_get (by rw [revV_len]; omega), e2, h2] at hc2
      have hf1 := World.ownsRow.frozenAt hown k
      have hf2 := World.ownsRow.frozenAt hown (n - 1 - k)
      have hs1 := World.ownsRow.stored hown k (valAt vl (n - 1 - k))
      have hs2 := World.ownsRow.stored hs1.1 (n - 1 - k) (valAt vl k)
      have hkn : k < n := by omega
      have hkn2 : n - 1 - k < n := by omega
      have hne : k ≠ n - 1 - k := by omega
      rw [revV_step hlt, h1, h2] at hs2
      have HS := Lib.hid hs2
      have hzg := (World.ownsRow.lt hown g rfl).2
      rw [hcast] at k1 ⊢
      obtain ⟨J, hJ⟩ : ∃ J, J = n - 1 - k := ⟨_, rfl⟩
      have HJ := Lib.hid hJ
      have hJc : ((J : Int)) - 1 = ((n : Int) - 1 - ((k : Int) + 1)) := by omega
      rw [← hJ] at k1 hc2 hf2 HS hkn2 hne ⊢
      clear hs1 hs2 h1 h2 e1 e2 hJ hcast hlt
      go_wp2_with fail
      go_region
      all_goals
        go_wp2_with fail
        go_roundw
        case rel =>
          refine ⟨k + 1, by omega, by go_num, by first | exact val_int hJc | rfl | (rw [← hJc]; go_num), ?_, ?_⟩
          · first
            | exact HS.out.1
            | exact ownsRow_bel HS.out.1 (Below.refl _ _).drew (Nat.le_refl _)
          · have h9 := grown_trans hg ((grown_set wr ⟨g, k, none⟩ (.slice a2 m2 c2)))
            have h8 := grown_trans h9 (grown_set _ ⟨g, J, none⟩ (.slice a1 m1 c1))
            first
            | exact h8
            | exact grown_trans h8 (below_grown (Below.refl _ _).drew (Nat.le_refl _) _)
        case measure => simp [intOf]; omega
    · have k1 : ¬ (k : Int) < (n : Int) - 1 - (k : Int) := by omega
      rw [← HL.out, revV_end (by have := HL.out; omega), HL.out] at hown
      have HO := Lib.hid hown
      clear hown
      go_wp2_with fail
      refine bodyPost_end (v := .tuple #[]) (by simp [results, Try.results141, go_sem]) rfl ?_
      exact ⟨rfl, HO.out, hg⟩

def addB (s x : Int) : Bool := decide (0 ≤ x) && decide (s + x ≤ 12)
theorem addB_iff {s x : Int} : addB s x = true ↔ 0 ≤ x ∧ s + x ≤ 12 := by simp [addB]
def addW (b : Nat) (s x : Int) (w : World) : World := if addB s x = true then w.setCell ⟨b, 0, none⟩ (.int .i64 (s + x)) else w
theorem iAdd_any (b : Nat) (s x : Int) (v : Value) (w : World) (hv : Var2 w b (.int .i64 s) v) (h0 : 0 ≤ s ∧ s ≤ 12) :
    Calls Try.prog 169 #[.pointer (some ⟨b, 0, none⟩), .int .i64 x] w fun e w' => e = .returned (.bool (addB s x)) ∧ w' = addW b s x w := by
  have ⟨⟨z, c, d⟩, f, g⟩ := hv
  by_cases h1 : x < 0
  · have H : Hid (addB s x = false) := by rw [Hid, ← Bool.not_eq_true, addB_iff]; omega
    go_enter Try.func169, Try.ntmps169
    go_wp2_with fail
    go_ret
    exact ⟨ret_bool H.out.symm, by rw [addW, H.out]; rfl⟩
  · by_cases h2 : 12 - s < x
    · have H : Hid (addB s x = false) := by rw [Hid, ← Bool.not_eq_true, addB_iff]; omega
      go_enter Try.func169, Try.ntmps169
      go_wp2_with fail
      go_ret
      exact ⟨ret_bool H.out.symm, by rw [addW, H.out]; rfl⟩
    · have H : Hid (addB s x = true) := addB_iff.2 (by omega)
      go_enter Try.func169, Try.ntmps169
      go_wp2_with fail
      go_ret
      exact ⟨ret_bool H.out.symm, by rw [addW, H.out]; rfl⟩

theorem infoSum : (Try.prog.info? 190).map (fun i => (i.zero, i.size, i.bytes)) = some (some (.agg #[.int .i64 0, .slice none 0 0]), 2, 32) := by kernel_rfl
theorem valAt_end (vl : List Value) (v : Value) : valAt (vl ++ [v]) vl.length = v := by
  simp [valAt]
/-- the cells of the first k rows, each with its sum ahead of it -/
def pcs (xss : List (List Int)) (vl : List Value) : Nat → List Value
  | 0 => []
  | k+1 => pcs xss vl k ++ [.int .i64 (totR (rowL xss k)), valAt vl k]
theorem pcs_len (xss : List (List Int)) (vl : List Value) : ∀ k, (pcs xss vl k).length = k * 2
  | 0 => rfl
  | k+1 => by rw [pcs, List.length_append, pcs_len xss vl k]; simp; omega
theorem pcs_at {xss : List (List Int)} {vl : List Value} {i : Nat} : ∀ {k : Nat}, i < k → (pcs xss vl k)[i * 2]? = some (.int .i64 (totR (rowL xss i))) ∧ (pcs xss vl k)[i * 2 + 1]? = some (valAt vl i)
  | 0, h => by omega
  | k+1, h => by
    have hl := pcs_len xss vl k
    by_cases e : i = k
    · subst e
      rw [pcs, List.getElem?_append_right (by omega), List.getElem?_append_right (by omega), hl]
      refine ⟨?_, ?_⟩
      · rw [Nat.sub_self]; rfl
      · rw [show i * 2 + 1 - i * 2 = 1 by omega]; rfl
    · rw [pcs, List.getElem?_append_left (by omega), List.getElem?_append_left (by omega)]
      exact pcs_at (by omega)
theorem rowL_app {xss yss : List (List Int)} {k : Nat} (h : k < xss.length) : rowL (xss ++ yss) k = rowL xss k := by
  rw [rowL, rowL, List.getD_eq_getElem?_getD, List.getD_eq_getElem?_getD, List.getElem?_append_left h]
theorem rowL_last (xss : List (List Int)) (r : List Int) : rowL (xss ++ [r]) xss.length = r := by
  simp [rowL]
theorem rowL_take {xss : List (List Int)} {j k : Nat} (h : j < k) : rowL (xss.take k) j = rowL xss j := by
  rw [rowL, rowL, List.getD_eq_getElem?_getD, List.getD_eq_getElem?_getD, List.getElem?_take, if_pos h]
theorem take_snocR {xss : List (List Int)} {k : Nat} (h : k < xss.length) : xss.take (k+1) = xss.take k ++ [rowL xss k] := by
  rw [List.take_succ_eq_append_getElem h]
  simp [rowL, h]
theorem pcs_congr {xss yss : List (List Int)} {vl ul : List Value} : ∀ {k : Nat}, (∀ j, j < k → rowL xss j = rowL yss j ∧ valAt vl j = valAt ul j) → pcs xss vl k = pcs yss ul k
  | 0, _ => rfl
  | k+1, h => by rw [pcs, pcs, pcs_congr (fun j hj => h j (by omega)), (h k (by omega)).1, (h k (by omega)).2]
/-- rows with their sums, each row in a block of its own -/
structure SumP (w : World) (B : Nat) (v : Value) (vl : List Value) (xss : List (List Int)) : Prop where
  own : w.ownsRow B 190 2 v xss.length (pcs xss vl xss.length)
  vlen : vl.length = xss.length
  row : ∀ k, k < xss.length → OwnI w B (valAt vl k) (rowL xss k)
  apart : ∀ k, k < xss.length → ∀ c, (valAt vl k).ownBlock = some c → v.ownBlock ≠ some c
  pair : ∀ j k, j < k → k < xss.length → ∀ c, (valAt vl j).ownBlock = some c → (valAt vl k).ownBlock ≠ some c
theorem SumP.nil (w : World) (B : Nat) : SumP w B (.slice none 0 0) [] [] :=
  ⟨World.ownsRow_nil _ _ _ _, rfl, fun k hk => by simp at hk, fun k hk => by simp at hk, fun j k _ hk => by simp at hk⟩
theorem SumP.form {w : World} {B : Nat} {v : Value} {vl : List Value} {xss : List (List Int)} (h : SumP w B v vl xss) : ∃ a cap, v = .slice a xss.length cap := by
  rcases h.own.2 with ⟨rfl, h0⟩ | ⟨g, cap, cur, rfl, _⟩
  · exact ⟨none, 0, by rw [h0]⟩
  · exact ⟨_, _, rfl⟩
theorem SumP.below {w w' : World} {B B' : Nat} {v : Value} {vl : List Value} {xss : List (List Int)} (h : SumP w B v vl xss) (hb : Below B' w w') (hB : w.heap.size ≤ B') : SumP w' B v vl xss :=
  ⟨ownsRow_bel h.own hb hB, h.vlen, fun k hk => (h.row k hk).below hb hB, h.apart, h.pair⟩
theorem SumP.lt {w : World} {B : Nat} {v : Value} {vl : List Value} {xss : List (List Int)} (h : SumP w B v vl xss) : ∀ b, v.ownBlock = some b → B ≤ b ∧ b < w.heap.size := World.ownsRow.lt h.own
theorem SumP.blk {w : World} {B : Nat} {v : Value} {vl : List Value} {xss : List (List Int)} (h : SumP w B v vl xss) : (∀ c, v.ownBlock = some c → c < w.heap.size) ∧ ∀ k, k < xss.length → ∀ c, (valAt vl k).ownBlock = some c → c < w.heap.size :=
  ⟨fun c e => (h.lt c e).2, fun k hk c e => ((h.row k hk).lt c e).2⟩
theorem SumP.mono {w : World} {B B' : Nat} {v : Value} {vl : List Value} {xss : List (List Int)} (h : SumP w B v vl xss) (hB : B' ≤ B) : SumP w B' v vl xss := by
  refine ⟨⟨h.own.1, ?_⟩, h.vlen, fun k hk => (h.row k hk).mono hB, h.apart, h.pair⟩
  rcases h.own.2 with hn | ⟨g, cap, cur, e, hb, rest⟩
  · exact .inl hn
  · exact .inr ⟨g, cap, cur, e, by omega, rest⟩
/-- the cells of a part -/
theorem SumP.at {w : World} {B n cap : Nat} {a : Option Addr} {vl : List Value} {xss : List (List Int)} (h : SumP w B (.slice a n cap) vl xss) {k : Nat} (hk : k < xss.length) : ∃ g, a = some ⟨g, 0, none⟩ ∧ g < w.heap.size ∧ w.cell? ⟨g, k * 2, none⟩ = some (.int .i64 (totR (rowL xss k))) ∧ w.cell? ⟨g, k * 2 + 1, none⟩ = some (valAt vl k) := by
  rcases h.own.2 with ⟨e, h0⟩ | ⟨g, cap3, cur, e, hb, hg, hn, hm, hs, ht⟩
  · omega
  · simp only [Value.slice.injEq] at e
    obtain ⟨rfl, rfl, rfl⟩ := e
    have ⟨h1, h2⟩ := pcs_at (xss := xss) (vl := vl) hk
    exact ⟨g, rfl, (Array.getElem?_eq_some_iff.1 hg).1, by rw [World.ownsRow.cellAt h.own (k*2) (by omega), h1], by rw [World.ownsRow.cellAt h.own (k*2+1) (by omega), h2]⟩
/-- one part more at the end -/
theorem SumP.snoc {w w' : World} {B C : Nat} {v v' : Value} {vl : List Value} {xss : List (List Int)} {u : Value} {r : List Int} (h : SumP w B v vl xss) (hr : OwnI w C u r) (hBC : B ≤ C) (hvC : ∀ c, v.ownBlock = some c → c < C) (hrC : ∀ k, k < xss.length → ∀ c, (valAt vl k).ownBlock = some c → c < C)
    (ho : w'.ownsRow B 190 2 v' (xss.length + 1) (pcs xss vl xss.length ++ [.int .i64 (totR r), u])) (hg : w.grownBy w' v.ownBlock) (hv' : v'.ownBlock = v.ownBlock ∨ ∃ m, w.heap.size ≤ m ∧ v'.ownBlock = some m) : SumP w' B v' (vl ++ [u]) (xss ++ [r]) := by
  have hl := h.vlen
  have e1 : ∀ k, k < xss.length → valAt (vl ++ [u]) k = valAt vl k := fun k hk => by rw [valAt, valAt, List.getD_eq_getElem?_getD, List.getD_eq_getElem?_getD, List.getElem?_append_left (by omega)]
  have e2 : valAt (vl ++ [u]) xss.length = u := by rw [← hl]; exact valAt_end vl u
  have hur := hr.lt
  refine ⟨?_, by simp [hl], fun k hk => ?_, fun k hk c hc hc2 => ?_, fun j k hjk hk c hc => ?_⟩
  · rw [List.length_append, List.length_singleton, pcs, e2, rowL_last, pcs_congr (yss := xss) (ul := vl) (fun j hj => ⟨rowL_app hj, e1 j hj⟩)]
    exact ho
  · rw [List.length_append, List.length_singleton] at hk
    by_cases e : k = xss.length
    · subst e
      rw [e2, rowL_last]
      exact (hr.mono hBC).kept hg (own_ne (fun c h1 h3 => by have := hvC c h3; have := (hur c h1).1; omega))
    · rw [e1 k (by omega), rowL_app (by omega)]
      exact (h.row k (by omega)).kept hg (own_ne (fun c h1 h3 => h.apart k (by omega) c h1 h3))
  · rw [List.length_append, List.length_singleton] at hk
    by_cases e : k = xss.length
    · subst e
      rw [e2] at hc
      have h1 := hur c hc
      rcases hv' with h3 | ⟨m, hm, h3⟩
      · rw [h3] at hc2; have := hvC c hc2; omega
      · rw [h3] at hc2; simp only [Option.some.injEq] at hc2; omega
    · rw [e1 k (by omega)] at hc
      have h1 := ((h.row k (by omega)).lt c hc).2
      rcases hv' with h3 | ⟨m, hm, h3⟩
      · rw [h3] at hc2; exact h.apart k (by omega) c hc hc2
      · rw [h3] at hc2; simp only [Option.some.injEq] at hc2; omega
  · rw [List.length_append, List.length_singleton] at hk
    rw [e1 j (by omega)] at hc
    by_cases e : k = xss.length
    · subst e
      rw [e2]
      intro h3
      have := hrC j (by omega) c hc
      have := (hur c h3).1
      omega
    · rw [e1 k (by omega)]
      exact h.pair j k hjk (by omega) c hc

/-- the first of two cells that may be written has been written -/
theorem Var2.set0 {w : World} {b : Nat} {u v : Value} (h : Var2 w b u v) (u' : Value) : Var2 (w.setCell ⟨b, 0, none⟩ u') b u' v := by
  refine ⟨⟨by simpa using h.1.1, ?_, ?_⟩, by simpa using h.2.1, by simpa using h.2.2⟩
  · rw [World.cell?_setCell_same _ _ _ h.1.2.1]
  · rw [World.cell?_setCell_other _ _ _ _ (by simp)]; exact h.1.2.2
def addV (s x : Int) : Int := if addB s x = true then s + x else s
theorem iPut_any (b : Nat) (s x : Int) (v : Value) (ys : List Int) (w : World) (hv : Var2 w b (.int .i64 s) v) (h0 : 0 ≤ s ∧ s ≤ 12) (ho : OwnI w (b+1) v ys) (h63 : ys.length ≤ 1048576) :
    Calls Try.prog 221 #[.pointer (some ⟨b, 0, none⟩), .int .i64 x, .int .i64 x] w fun e w' => e = .returned (.bool (addB s x)) ∧ ∃ v', Var2 w' b (.int .i64 (addV s x)) v' ∧ OwnI w' (b+1) v' (ys ++ [x]) ∧ Below b w w' := by
  have ⟨⟨z, c, d⟩, f, g⟩ := hv
  have HV := Lib.hid hv
  obtain ⟨av, cv, rfl⟩ := ho.form
  have HO := Lib.hid ho
  clear hv ho
  go_enter Try.func221, Try.ntmps221
  go_wp2_with (at_builtin; refine push_at rfl _ _ rfl (z := x) rfl HO.out rfl (by omega) (by omega) ?_)
  intro v3 w3 o3 hg hat
  have hU := HO.out.lt
  have hv3 := HV.out.kept hg (ne_own (fun c e => by have := (hU c e).1; omega))
  have b3 : Below b w w3 := below_of_grown hg (fun c e => by have := (hU c e).1; omega) (by omega)
  have ⟨⟨z3, c3, d3⟩, f3, g3⟩ := hv3
  clear hg hat hU
  obtain ⟨a3, k3, rfl⟩ := o3.form
  rw [show (ys ++ [x]).length = ys.length + 1 by simp] at o3 ⊢
  go_wp2_with fail
  have hv4 := hv3.set1 (.slice a3 (ys.length + 1) k3)
  refine (iAdd_any b s x _ _ hv4 h0).mono ?_
  rintro e w5 ⟨rfl, hw5⟩
  have H : Hid (∃ v', Var2 w5 b (.int .i64 (addV s x)) v' ∧ OwnI w5 (b+1) v' (ys ++ [x]) ∧ Below b w w5) := by
    rw [hw5, addW, addV]
    cases addB s x
    · exact ⟨.slice a3 (ys.length + 1) k3, by simpa using hv4, by simpa using o3.setBelow (show b < b + 1 by omega) _, by simpa using b3.setCell (Nat.le_refl _) _⟩
    · exact ⟨.slice a3 (ys.length + 1) k3, by simpa using hv4.set0 _, by simpa using (o3.setBelow (show b < b + 1 by omega) _).setBelow (show b < b + 1 by omega) _, by simpa using (b3.setCell (Nat.le_refl _) _).setCell (Nat.le_refl _) _⟩
  clear hw5 hv4
  go_wp2_with fail
  go_ret
  exact ⟨rfl, H.out⟩

set_option maxRecDepth 100000 in
theorem iPutS_any (b : Nat) (s x : Int) (v : Value) (vl : List Value) (xss : List (List Int)) (r : List Int) (ra : Option Addr) (rc B C : Nat) (w : World) (hv : Var2 w b (.int .i64 s) v) (h0 : 0 ≤ s ∧ s ≤ 12)
    (hp : SumP w B v vl xss) (hr : OwnI w C (.slice ra r.length rc) r) (hbB : b + 1 ≤ B) (hBC : B ≤ C) (hC : C ≤ w.heap.size) (hvC : ∀ c, v.ownBlock = some c → c < C) (hrC : ∀ k, k < xss.length → ∀ c, (valAt vl k).ownBlock = some c → c < C) (h63 : xss.length ≤ 1048576) :
    Calls Try.prog 222 #[.pointer (some ⟨b, 0, none⟩), .agg #[.int .i64 (totR r), .slice ra r.length rc], .int .i64 x] w fun e w' => e = .returned (.bool (addB s x)) ∧ ∃ v', Var2 w' b (.int .i64 (addV s x)) v' ∧ SumP w' B v' (vl ++ [.slice ra r.length rc]) (xss ++ [r]) ∧ Below b w w' := by
  obtain ⟨i0, hi, hz0, hz1, hz2⟩ := info_parts infoSum
  have ⟨⟨z, c, d⟩, f, g⟩ := hv
  have HV := Lib.hid hv
  obtain ⟨av, cv, rfl⟩ := hp.form
  have HP := Lib.hid hp
  have HR := Lib.hid hr
  have HB := Lib.hid hvC
  have HRB := Lib.hid hrC
  have Hown := Lib.hid (ownsRow_bel hp.own (w' := ((w.alloc (.cells #[.int .i64 (totR r), .slice ra r.length rc] 190)).alloc (.cells #[.int .i64 (totR r), .slice ra r.length rc] 190)).drew) ((((Below.refl _ _).alloc (Nat.le_refl _) _).alloc (by simp) _).drew) (Nat.le_refl _))
  have hnews := cell_two_new (w.alloc (.cells #[.int .i64 (totR r), .slice ra r.length rc] 190)) (.int .i64 (totR r)) (.slice ra r.length rc) 190
  simp only [World.size_alloc] at hnews
  have Hnews := Lib.hid hnews
  have hpl := pcs_len xss vl xss.length
  have HPL := Lib.hid hpl
  clear hv hp hr hnews hvC hrC hpl
  obtain ⟨PC, hPC⟩ : ∃ PC, PC = pcs xss vl xss.length := ⟨_, rfl⟩
  have HPC := Lib.hid hPC
  rw [← hPC] at Hown HPL
  clear hPC
  obtain ⟨T, hT⟩ : ∃ T, T = totR r := ⟨_, rfl⟩
  have HT := Lib.hid hT
  rw [← hT] at Hown Hnews ⊢
  clear hT
  go_enter Try.func222, Try.ntmps222
  go_wp2_with fail
  go_region_law (refine step_append_lies _ (by rfl) _ _ _ (by rfl) B 190 i0 (.agg #[.int .i64 0, .slice none 0 0]) 2 32 Try.underlying107 hi hz0 hz1 hz2 rfl (by omega) (.slice av xss.length cv) xss.length PC (by rfl) Hown.out ⟨w.heap.size + 1, 0, none⟩ 1 1 [.int .i64 T, .slice ra r.length rc] (by rfl) (by rfl) Hnews.out (by intro u hu; simp at hu; rcases hu with rfl | rfl <;> rfl) (by omega) (by unfold maxLen; omega) (by omega) (by simp; omega) (w.heap.size + 2) (by simp) ?_; intro gg cap3 w3 hown3 hgrow hat hlt3; have hg2 : w.grownBy w3 (Value.slice av xss.length cv).ownBlock := grown_alloc_set (grown_alloc_set (o := .cells #[.int .i64 T, .slice ra r.length rc] 190) ⟨hgrow.os, hgrow.tape, hgrow.output, hgrow.size, hgrow.block⟩); have hv3 := HV.out.kept hg2 (ne_own (fun c e => by have := (HP.out.lt c e).1; omega)); have ⟨⟨z3, c3, d3⟩, f3, g3⟩ := hv3)
  all_goals
    have hp3 : SumP w3 B (.slice (some ⟨gg, 0, none⟩) (xss.length + 1) cap3) (vl ++ [.slice ra r.length rc]) (xss ++ [r]) := by
      refine HP.out.snoc HR.out hBC HB.out HRB.out ?_ hg2 ?_
      · rw [← HPC.out, ← HT.out]; exact hown3
      · rcases hat with h | h
        · exact .inl (by rw [h]; rfl)
        · exact .inr ⟨gg, by omega, rfl⟩
    have b3 : Below b w w3 := below_of_grown hg2 (fun c e => by have := (HP.out.lt c e).1; omega) (by omega)
    have hv4 := hv3.set1 (.slice (some ⟨gg, 0, none⟩) (xss.length + 1) cap3)
    clear hown3 hgrow hat hg2
    go_wp2_with fail
    refine (iAdd_any b s x _ _ hv4 h0).mono ?_
    rintro e w5 ⟨rfl, hw5⟩
    have hset : ∀ (p : Addr) (u : Value) (w9 : World), p.block = b → SumP w9 B (.slice (some ⟨gg, 0, none⟩) (xss.length + 1) cap3) (vl ++ [.slice ra r.length rc]) (xss ++ [r]) → SumP (w9.setCell p u) B (.slice (some ⟨gg, 0, none⟩) (xss.length + 1) cap3) (vl ++ [.slice ra r.length rc]) (xss ++ [r]) := fun p u w9 e h =>
      ⟨ownsRow_setCell_below h.own (by rw [e]; omega) u, h.vlen, fun k hk => (h.row k hk).setBelow (by rw [e]; omega) u, h.apart, h.pair⟩
    have H : Hid (∃ v', Var2 w5 b (.int .i64 (addV s x)) v' ∧ SumP w5 B v' (vl ++ [.slice ra r.length rc]) (xss ++ [r]) ∧ Below b w w5) := by
      rw [hw5, addW, addV]
      cases addB s x
      · exact ⟨.slice (some ⟨gg, 0, none⟩) (xss.length + 1) cap3, by simpa using hv4, by simpa using hset _ _ _ rfl hp3, by simpa using b3.setCell (Nat.le_refl _) _⟩
      · exact ⟨.slice (some ⟨gg, 0, none⟩) (xss.length + 1) cap3, by simpa using hv4.set0 _, by simpa using hset _ _ _ rfl (hset _ _ _ rfl hp3), by simpa using (b3.setCell (Nat.le_refl _) _).setCell (Nat.le_refl _) _⟩
    clear hw5 hv4 hset hp3
    go_wp2_with fail
    go_ret
    exact ⟨rfl, H.out⟩

theorem add_ok {s x : Int} (h : addB s x = true) : addV s x = s + x := by rw [addV, if_pos h]
/-- the first k rows may be rows -/
def adTo (xss : List (List Int)) (k : Nat) : Prop := ∀ i, i < k → (∀ j, j < (rowL xss i).length → 0 ≤ nth (rowL xss i) j) ∧ 0 < totR (rowL xss i)
theorem ad_no_num {xss : List (List Int)} {k j : Nat} (hk : k < xss.length) (hj : j < (rowL xss k).length) (hpre : ∀ i, i < j → 0 ≤ nth (rowL xss k) i) (h : addB (totI (rowL xss k) j) (nth (rowL xss k) j) = false) : adB xss = false := by
  rw [← Bool.not_eq_true]
  intro h2
  have ⟨h3, h4⟩ := adB_iff.1 h2
  have h5 := (adB_row h2 hk).2
  have h6 := totI_mono (xs := rowL xss k) (j := j + 1) (k := (rowL xss k).length) (by omega) (h3 k hk).1
  rw [totR] at h5
  rw [totI] at h6
  rw [← Bool.not_eq_true, addB_iff] at h
  exact h ⟨(h3 k hk).1 j hj, by omega⟩
theorem ad_no_row {xss : List (List Int)} {k : Nat} (hk : k < xss.length) (h : addB (matS xss k) (totR (rowL xss k)) = false) : adB xss = false := by
  rw [← Bool.not_eq_true]
  intro h2
  have ⟨h3, h4⟩ := adB_iff.1 h2
  have h5 := adB_row h2 hk
  have h6 := matS_mono (xss := xss) (j := k + 1) (k := xss.length) (by omega) (fun i hi => by have := (h3 i hi).2; omega)
  rw [matS] at h6
  rw [← Bool.not_eq_true, addB_iff] at h
  exact h ⟨by omega, by omega⟩
set_option maxRecDepth 100000 in
set_option maxHeartbeats 1000000 in
theorem iAddUp_any (a : Option Addr) (xss : List (List Int)) (cap : Nat) (w : World) (hx : RdS w a xss) (hs : xss.length + totS xss xss.length ≤ 1048576) :
    Calls Try.prog 145 #[.slice a xss.length cap] w fun e w' => ∃ s va vn vc, e = .returned (.tuple #[.agg #[.int .i64 s, .slice va vn vc], .bool (adB xss)]) ∧ (adB xss = true → s = matS xss xss.length ∧ ∃ vl, SumP w' w.heap.size (.slice va vn vc) vl xss) ∧ Below w.heap.size w w' := by
  have hlen := hx.len
  have HX := Lib.hid hx
  have HS := Lib.hid hs
  go_enter Try.func145, Try.ntmps145
  clear hx hs
  go_wp2_with fail
  go_loopw [12] (fun i wr => ∃ (k : Nat) (v : Value) (vl : List Value), k ≤ xss.length ∧ i = .int .i64 k ∧ Hid (adTo xss k) ∧ 0 ≤ matS xss k ∧ matS xss k ≤ 12 ∧ Var2 wr w.heap.size (.int .i64 0) (.slice none 0 0) ∧ Var2 wr (w.heap.size + 1) (.int .i64 (matS xss k)) v ∧ SumP wr (w.heap.size + 2) v vl (xss.take k) ∧ Below w.heap.size w wr) (fun i _ => xss.length - (intOf i).toNat)
  case atStart => exact ⟨0, .slice none 0 0, [], Nat.zero_le _, rfl, fun j hj => by omega, by simp [matS], by simp [matS], (Var2.new w _ _ _).alloc _, by have h := Var2.new (w.alloc (.cells #[.int .i64 0, .slice none 0 0] 109)) (.int .i64 0) (.slice none 0 0) 109; rw [World.size_alloc] at h; exact h, by rw [List.take_zero]; exact SumP.nil _ _, (by repeat (first | exact Below.refl _ _ | assumption | refine Below.alloc ?_ (by first | exact Nat.le_refl _ | (simp only [World.size_alloc, World.size_setCell, World.size_drew]; omega) | omega) _ | refine Below.setCell ?_ (by first | exact Nat.le_refl _ | (simp only [World.size_alloc, World.size_setCell, World.size_drew]; omega) | omega) _ | refine Below.drew ?_))⟩
  case round =>
    obtain ⟨k, v, vl, hk, rfl, HAD, hm0, hm1, hR, hA, hp, hb⟩ := hrel
    have ⟨av, cv, ev⟩ := hp.form
    obtain ⟨LK, hLK⟩ : ∃ LK, LK = (xss.take k).length := ⟨_, rfl⟩
    rw [← hLK] at ev
    subst ev
    clear hLK
    have hbs := hb.size
    have ⟨⟨zR, cR, dR⟩, fR, gR⟩ := hR
    have ⟨⟨zA, cA, dA⟩, fA, gA⟩ := hA
    have HR := Lib.hid hR
    have HA := Lib.hid hA
    have HP := Lib.hid hp
    by_cases hlt : k < xss.length
    · obtain ⟨b, off, a', cap', rfl, hbl, hc, hr⟩ := (HX.out.below hb).row k hlt
      have k1 : (k : Int) < (xss.length : Int) := by omega
      have hrl := hr.len
      have hrt := row_tot (xss := xss) hlt
      have hrow : (rowL xss k).length ≤ 1048576 := by have := HS.out; omega
      have HRD := Lib.hid hr
      have HT : Hid (xss.take (k+1) = xss.take k ++ [rowL xss k]) := take_snocR hlt
      have HTL : Hid ((xss.take k).length = k) := by rw [Hid, List.length_take]; omega
      have HNR : Hid (∀ j, j < (rowL xss k).length → (∀ i, i < j → 0 ≤ nth (rowL xss k) i) → addB (totI (rowL xss k) j) (nth (rowL xss k) j) = false → adB xss = false) := fun j hj => ad_no_num hlt hj
      have HNM : Hid (addB (matS xss k) (totR (rowL xss k)) = false → adB xss = false) := ad_no_row hlt
      have HNZ : Hid (totR (rowL xss k) = 0 → adB xss = false) := fun h => by
        rw [← Bool.not_eq_true]; intro h2
        have := (adB_row h2 hlt).1; omega
      have HMN : Hid (matS xss (k+1) = matS xss k + totR (rowL xss k)) := rfl
      have HGD : Hid ((∀ j, j < (rowL xss k).length → 0 ≤ nth (rowL xss k) j) → 0 < totR (rowL xss k) → adTo xss (k+1)) := fun h1 h2 i hi => by
        by_cases e : i = k
        · rw [e]; exact ⟨h1, h2⟩
        · exact HAD.out i (by omega)
      obtain ⟨R, hR9⟩ : ∃ R, R = rowL xss k := ⟨_, rfl⟩
      rw [← hR9] at hc hrl hrow HRD HT HNR HNM HNZ HMN HGD
      obtain ⟨M, hM9⟩ : ∃ M, M = matS xss k := ⟨_, rfl⟩
      rw [← hM9] at hm0 hm1 HA cA HNM HMN
      clear hr hrt hR9 hM9 hR hA hp HAD
      obtain ⟨W1, hW1⟩ : ∃ x : World, x = wr := ⟨_, rfl⟩
      subst hW1
      go_wp2_with fail
      go_loopw [18] (fun i wr => ∃ (j : Nat) (u : Value), j ≤ R.length ∧ i = .int .i64 j ∧ Hid (∀ i, i < j → 0 ≤ nth R i) ∧ 0 ≤ totI R j ∧ totI R j ≤ 12 ∧ Var2 wr W1.heap.size (.int .i64 (totI R j)) u ∧ OwnI wr (W1.heap.size + 1) u (R.take j) ∧ Below W1.heap.size W1 wr) (fun i _ => R.length - (intOf i).toNat)
      case atStart => exact ⟨0, .slice none 0 0, Nat.zero_le _, rfl, fun j hj => by omega, by simp [totI], by simp [totI], Var2.new W1 _ _ _, by rw [List.take_zero]; exact OwnI.nil _ _, (by repeat (first | exact Below.refl _ _ | assumption | refine Below.alloc ?_ (by first | exact Nat.le_refl _ | (simp only [World.size_alloc, World.size_setCell, World.size_drew]; omega) | omega) _ | refine Below.setCell ?_ (by first | exact Nat.le_refl _ | (simp only [World.size_alloc, World.size_setCell, World.size_drew]; omega) | omega) _ | refine Below.drew ?_))⟩
      case round =>
        obtain ⟨j, u, hj, rfl, HNN, ht0, ht1, hQ, ho, hbq⟩ := hrel
        have hbqs := hbq.size
        have ⟨⟨zQ, cQ, dQ⟩, fQ, gQ⟩ := hQ
        have hR2 := HR.out.below hbq
        have hA2 := HA.out.below hbq
        have ⟨⟨zR2, cR2, dR2⟩, fR2, gR2⟩ := hR2
        have ⟨⟨zA2, cA2, dA2⟩, fA2, gA2⟩ := hA2
        have HR2 := Lib.hid hR2
        have HA2 := Lib.hid hA2
        clear hR2 hA2
        by_cases hlt2 : j < R.length
        · obtain ⟨b2, off2, rfl, hbl2, hc2⟩ := (HRD.out.below hbq).cell j hlt2
          have j1 : (j : Int) < (R.length : Int) := by omega
          have htk : R.take (j+1) = R.take j ++ [nth R j] := by
            rw [List.take_succ_eq_append_getElem hlt2, nth_get _ _ hlt2]
          have HTK := Lib.hid htk
          have hlj : (R.take j).length ≤ 1048576 := by rw [List.length_take]; omega
          have HTI : Hid (totI R (j+1) = totI R j + nth R j) := rfl
          have HNF := Lib.hid (HNR.out j hlt2 HNN.out)
          obtain ⟨Z, hZ⟩ : ∃ Z, Z = nth R j := ⟨_, rfl⟩
          have HZ := Lib.hid hZ
          rw [← hZ] at hc2 HTK HTI HNF
          obtain ⟨S, hS⟩ : ∃ S, S = totI R j := ⟨_, rfl⟩
          rw [← hS] at ht0 ht1 cQ hQ HTI HNF
          have HQ := Lib.hid hQ
          have HO := Lib.hid ho
          have hPut := iPut_any W1.heap.size S Z u (R.take j) wr HQ.out ⟨ht0, ht1⟩ HO.out hlj
          have HPUT := Lib.hid hPut
          clear htk hZ hS hQ ho hPut
          cases had : addB S Z
          · have H := HNF.out had
            have HF := Lib.hid had
            have HH := Lib.hid H
            clear had H
            go_wp2_with fail
            refine HPUT.out.mono ?_
            rintro e w5 ⟨rfl, v5, hv5, ho5, hb5⟩
            rw [HF.out]
            have b5 : Below W1.heap.size W1 w5 := hbq.trans hb5
            have hR5 := HR.out.below b5
            have hA5 := HA.out.below b5
            have ⟨⟨zR5, cR5, dR5⟩, fR5, gR5⟩ := hR5
            have ⟨⟨zA5, cA5, dA5⟩, fA5, gA5⟩ := hA5
            have bw5 := hb.trans (b5.mono hbs)
            clear hv5 ho5 hb5
            go_wp2_with fail
            have hR7 := hR5.set (.int .i64 M) (.slice av LK cv)
            have b7 := (bw5.setCell (p := ⟨w.heap.size, 0, none⟩) (Nat.le_refl _) (.int .i64 M)).setCell (p := ⟨w.heap.size, 1, none⟩) (Nat.le_refl _) (.slice av LK cv)
            refine bodyPost_ret (v := .tuple #[.agg #[.int .i64 M, .slice av LK cv], .bool false]) (by have ⟨⟨_, q1, q2⟩, _, _⟩ := hR7; simp [results, Try.results145, go_sem, q1, q2]) rfl ?_
            exact ⟨M, av, LK, cv, by rw [HH.out], (by intro h; rw [HH.out] at h; cases h), b7⟩
          · have hge := addB_iff.1 had
            have HF := Lib.hid had
            have HV := Lib.hid (add_ok had)
            clear had HNF
            go_wp2_with fail
            refine HPUT.out.mono ?_
            rintro e w5 ⟨rfl, v5, hv5, ho5, hb5⟩
            rw [HF.out]
            rw [HV.out] at hv5
            have b5 : Below W1.heap.size W1 w5 := hbq.trans hb5
            go_wp2_with fail
            go_roundw
            case rel =>
              refine ⟨j + 1, v5, by omega, by go_num, fun i hi => ?_, by rw [HTI.out]; omega, by rw [HTI.out]; omega, by rw [HTI.out]; exact hv5, by rw [HTK.out]; exact ho5, b5⟩
              by_cases e : i = j
              · rw [e, ← HZ.out]; omega
              · exact HNN.out i (by omega)
            case measure => simp [intOf]; omega
        · obtain rfl : j = R.length := by omega
          have HTR : Hid (totI R R.length = totR R) := rfl
          rw [HTR.out] at ht0 ht1 cQ hQ
          rw [List.take_length] at ho
          obtain ⟨au, cu, rfl⟩ := ho.form
          have HO := Lib.hid ho
          have HP2 := Lib.hid (HP.out.below hbq (Nat.le_refl _))
          obtain ⟨S, hS⟩ : ∃ S, S = totR R := ⟨_, rfl⟩
          have HSS := Lib.hid hS
          rw [← hS] at ht0 ht1 cQ hQ HNM HNZ HMN HGD
          have HQ := Lib.hid hQ
          have hlk : (xss.take k).length ≤ 1048576 := by rw [HTL.out]; have := HS.out; omega
          have bwq := hb.trans (hbq.mono hbs)
          clear hS hQ ho
          by_cases hz : S = 0
          · have hzz : (S == 0) = true := by simp [hz]
            have HH := Lib.hid (HNZ.out hz)
            clear hz
            go_wp2_with fail
            have hR7 := HR2.out.set (.int .i64 M) (.slice av LK cv)
            have b7 := (bwq.setCell (p := ⟨w.heap.size, 0, none⟩) (Nat.le_refl _) (.int .i64 M)).setCell (p := ⟨w.heap.size, 1, none⟩) (Nat.le_refl _) (.slice av LK cv)
            refine bodyPost_ret (v := .tuple #[.agg #[.int .i64 M, .slice av LK cv], .bool false]) (by have ⟨⟨_, q1, q2⟩, _, _⟩ := hR7; simp [results, Try.results145, go_sem, q1, q2]) rfl ?_
            exact ⟨M, av, LK, cv, by rw [HH.out], (by intro h; rw [HH.out] at h; cases h), b7⟩
          · have hzz : (S == 0) = false := by simp [hz]
            have hPut := iPutS_any (w.heap.size + 1) M S (.slice av LK cv) vl (xss.take k) R au cu (w.heap.size + 2) (W1.heap.size + 1) wr HA2.out ⟨hm0, hm1⟩ HP2.out HO.out (by omega) (by omega) (by omega) (fun c e => by have := HP.out.blk.1 c e; omega) (fun i hi c e => by have := HP.out.blk.2 i hi c e; omega) hlk
            rw [← HSS.out] at hPut
            have HPUT := Lib.hid hPut
            clear hPut
            cases had : addB M S
            · have HF := Lib.hid had
              have HH := Lib.hid (HNM.out had)
              clear had hz
              go_wp2_with fail
              refine HPUT.out.mono ?_
              rintro e w5 ⟨rfl, v5, hv5, ho5, hb5⟩
              rw [HF.out]
              have ⟨⟨zA5, cA5, dA5⟩, fA5, gA5⟩ := hv5
              have hR5 : Var2 w5 w.heap.size (.int .i64 0) (.slice none 0 0) := ⟨⟨by have := hb5.size; omega, (hb5.cell (p := ⟨w.heap.size, 0, none⟩) (show w.heap.size < w.heap.size + 1 by omega)).trans cR2, (hb5.cell (p := ⟨w.heap.size, 1, none⟩) (show w.heap.size < w.heap.size + 1 by omega)).trans dR2⟩, (hb5.frozen (p := ⟨w.heap.size, 0, none⟩) (show w.heap.size < w.heap.size + 1 by omega)).trans fR2, (hb5.frozen (p := ⟨w.heap.size, 1, none⟩) (show w.heap.size < w.heap.size + 1 by omega)).trans gR2⟩
              have ⟨⟨zR5, cR5, dR5⟩, fR5, gR5⟩ := hR5
              have bw5 := bwq.trans (hb5.mono (by omega : w.heap.size ≤ w.heap.size + 1))
              obtain ⟨D, hD⟩ : ∃ D, D = addV M S := ⟨_, rfl⟩
              rw [← hD] at cA5
              obtain ⟨a5, c5, e5⟩ := ho5.form
              obtain ⟨L5, hL5⟩ : ∃ L5, L5 = (xss.take k ++ [R]).length := ⟨_, rfl⟩
              rw [← hL5] at e5
              rw [e5] at dA5
              clear hL5 e5
              clear hv5 ho5 hb5 hD
              go_wp2_with fail
              have hR7 := hR5.set (.int .i64 D) (.slice a5 L5 c5)
              have b7 := (bw5.setCell (p := ⟨w.heap.size, 0, none⟩) (Nat.le_refl _) (.int .i64 D)).setCell (p := ⟨w.heap.size, 1, none⟩) (Nat.le_refl _) (.slice a5 L5 c5)
              refine bodyPost_ret (v := .tuple #[.agg #[.int .i64 D, .slice a5 L5 c5], .bool false]) (by have ⟨⟨_, q1, q2⟩, _, _⟩ := hR7; simp [results, Try.results145, go_sem, q1, q2]) rfl ?_
              exact ⟨D, a5, L5, c5, by rw [HH.out], (by intro h; rw [HH.out] at h; cases h), b7⟩
            · have hge := addB_iff.1 had
              have HF := Lib.hid had
              have HV := Lib.hid (add_ok had)
              clear had
              go_wp2_with fail
              refine HPUT.out.mono ?_
              rintro e w5 ⟨rfl, v5, hv5, ho5, hb5⟩
              rw [HF.out]
              rw [HV.out] at hv5
              have hR5 : Var2 w5 w.heap.size (.int .i64 0) (.slice none 0 0) := ⟨⟨by have := hb5.size; omega, (hb5.cell (p := ⟨w.heap.size, 0, none⟩) (show w.heap.size < w.heap.size + 1 by omega)).trans cR2, (hb5.cell (p := ⟨w.heap.size, 1, none⟩) (show w.heap.size < w.heap.size + 1 by omega)).trans dR2⟩, (hb5.frozen (p := ⟨w.heap.size, 0, none⟩) (show w.heap.size < w.heap.size + 1 by omega)).trans fR2, (hb5.frozen (p := ⟨w.heap.size, 1, none⟩) (show w.heap.size < w.heap.size + 1 by omega)).trans gR2⟩
              have bw5 := bwq.trans (hb5.mono (by omega : w.heap.size ≤ w.heap.size + 1))
              have HG2 := Lib.hid (HGD.out HNN.out (by omega))
              go_wp2_with fail
              go_roundw
              case rel => exact ⟨k + 1, v5, _, by omega, by go_num, HG2.out, by rw [HMN.out]; omega, by rw [HMN.out]; omega, hR5, by rw [HMN.out]; exact hv5, by rw [HT.out]; exact ho5, bw5⟩
              case measure => simp [intOf]; omega
    · obtain rfl : k = xss.length := by omega
      have HH : Hid (adB xss = true) := adB_iff.2 ⟨HAD.out, hm1⟩
      obtain ⟨M, hM9⟩ : ∃ M, M = matS xss xss.length := ⟨_, rfl⟩
      have HM := Lib.hid hM9
      rw [← hM9] at hm0 hm1 HA cA
      clear hM9 hR hA hp
      go_wp2_with fail
      have hR7 := HR.out.set (.int .i64 M) (.slice av LK cv)
      have b7 := (hb.setCell (p := ⟨w.heap.size, 0, none⟩) (Nat.le_refl _) (.int .i64 M)).setCell (p := ⟨w.heap.size, 1, none⟩) (Nat.le_refl _) (.slice av LK cv)
      refine bodyPost_ret (v := .tuple #[.agg #[.int .i64 M, .slice av LK cv], .bool true]) (by have ⟨⟨_, q1, q2⟩, _, _⟩ := hR7; simp [results, Try.results145, go_sem, q1, q2]) rfl ?_
      refine ⟨M, av, LK, cv, by rw [HH.out], fun _ => ⟨HM.out, vl, ?_⟩, b7⟩
      have h := HP.out
      rw [List.take_length] at h
      have hset : ∀ (p : Addr) (u : Value) (w9 : World), p.block = w.heap.size → SumP w9 (w.heap.size + 2) (.slice av LK cv) vl xss → SumP (w9.setCell p u) (w.heap.size + 2) (.slice av LK cv) vl xss := fun p u w9 e h =>
        ⟨ownsRow_setCell_below h.own (by rw [e]; omega) u, h.vlen, fun k hk => (h.row k hk).setBelow (by rw [e]; omega) u, h.apart, h.pair⟩
      exact (hset _ _ _ rfl (hset _ _ _ rfl h)).mono (by omega)

set_option maxRecDepth 100000 in
theorem isUpper_any (a : Option Addr) (xss : List (List Int)) (cap : Nat) (w : World) (hx : RdC w a xss) :
    Calls Try.prog 173 #[.agg #[.slice a xss.length cap]] w fun e w' => e = .returned (.bool (upB xss)) ∧ Below w.heap.size w w' := by
  have hlen := hx.rd.len
  have HX := Lib.hid hx
  have b1 : Below w.heap.size w (w.alloc (.cells #[.slice a xss.length cap] 40)) := (by repeat (first | exact Below.refl _ _ | assumption | refine Below.alloc ?_ (by first | exact Nat.le_refl _ | (simp only [World.size_alloc, World.size_setCell, World.size_drew]; omega) | omega) _ | refine Below.setCell ?_ (by first | exact Nat.le_refl _ | (simp only [World.size_alloc, World.size_setCell, World.size_drew]; omega) | omega) _ | refine Below.drew ?_))
  clear hx
  go_enter Try.func173, Try.ntmps173
  go_wp2_with fail
  go_loop [10] (fun i => ∃ k : Nat, k ≤ xss.length ∧ i = .int .i64 k ∧ Hid (∀ j, j < k → (rowL xss j).length = xss.length ∧ ∀ q, q < j → atM xss j q = 0)) (fun i => xss.length - (intOf i).toNat)
  case atStart => exact ⟨0, Nat.zero_le _, rfl, fun j hj => by omega⟩
  case round =>
    obtain ⟨k, hk, rfl, HA⟩ := hrel
    by_cases hlt : k < xss.length
    · obtain ⟨b, off, a', cap', rfl, hbl, hc, hr, hcp⟩ := (HX.out.below b1).row hlt
      have k1 : (k : Int) < (xss.length : Int) := by omega
      by_cases hq : (rowL xss k).length = xss.length
      · have hqq : (((rowL xss k).length : Int) != (xss.length : Int)) = false := by simp [hq]
        have HQ := Lib.hid hq
        obtain ⟨b2, off2, rfl, hbl2, hc2⟩ := hr.cell 0 (by omega)
        have HR := Lib.hid hr
        have k2 : k ≤ cap' := by omega
        have k3 : k ≤ (rowL xss k).length := by omega
        have hrl := hr.len
        clear hq hr hc2
        go_wp2_with fail
        go_loop [25] (fun i => ∃ q : Nat, q ≤ k ∧ i = .int .i64 q ∧ Hid (∀ j, j < q → atM xss k j = 0)) (fun i => k - (intOf i).toNat)
        case atStart => exact ⟨0, Nat.zero_le _, rfl, fun j hj => by omega⟩
        case round =>
          obtain ⟨q, hq2, rfl, HU⟩ := hrel
          by_cases hlt2 : q < k
          · obtain ⟨b3, off3, e3, hbl3, hc3⟩ := HR.out.cell q (by omega)
            simp only [Option.some.injEq, Addr.mk.injEq, and_true] at e3
            obtain ⟨rfl, rfl⟩ := e3
            have q1 : (q : Int) < (k : Int) := by omega
            by_cases hz : nth (rowL xss k) q = 0
            · have hzz : (nth (rowL xss k) q != 0) = false := by simp [hz]
              have HZ : Hid (atM xss k q = 0) := hz
              clear hz
              go_wp2_with fail
              go_round
              case rel =>
                refine ⟨q + 1, by omega, by go_num, fun j hj => ?_⟩
                by_cases e : j = q
                · rw [e]; exact HZ.out
                · exact HU.out j (by omega)
              case measure => simp [intOf]; omega
            · have hzz : (nth (rowL xss k) q != 0) = true := by simp [hz]
              have H : Hid (upB xss = false) := by
                rw [Hid, ← Bool.not_eq_true, upB_iff]
                intro h
                exact hz ((h k hlt).2 q hlt2)
              clear hz
              go_wp2_with fail
              go_ret
              exact ⟨ret_bool H.out.symm, (by repeat (first | exact Below.refl _ _ | assumption | refine Below.alloc ?_ (by first | exact Nat.le_refl _ | (simp only [World.size_alloc, World.size_setCell, World.size_drew]; omega) | omega) _ | refine Below.setCell ?_ (by first | exact Nat.le_refl _ | (simp only [World.size_alloc, World.size_setCell, World.size_drew]; omega) | omega) _ | refine Below.drew ?_))⟩
          · obtain rfl : q = k := by omega
            go_wp2_with fail
            go_round
            case rel =>
              refine ⟨q + 1, by omega, by go_num, fun j hj => ?_⟩
              by_cases e : j = q
              · rw [e]; exact ⟨HQ.out, HU.out⟩
              · exact HA.out j (by omega)
            case measure => simp [intOf]; omega
      · have hqq : (((rowL xss k).length : Int) != (xss.length : Int)) = true := by simp; omega
        have H : Hid (upB xss = false) := by
          rw [Hid, ← Bool.not_eq_true, upB_iff]
          intro h
          exact hq (h k hlt).1
        clear hq hr
        go_wp2_with fail
        go_ret
        exact ⟨ret_bool H.out.symm, (by repeat (first | exact Below.refl _ _ | assumption | refine Below.alloc ?_ (by first | exact Nat.le_refl _ | (simp only [World.size_alloc, World.size_setCell, World.size_drew]; omega) | omega) _ | refine Below.setCell ?_ (by first | exact Nat.le_refl _ | (simp only [World.size_alloc, World.size_setCell, World.size_drew]; omega) | omega) _ | refine Below.drew ?_))⟩
    · obtain rfl : k = xss.length := by omega
      have H : Hid (upB xss = true) := upB_iff.2 HA.out
      go_wp2_with fail
      go_ret
      exact ⟨ret_bool H.out.symm, (by repeat (first | exact Below.refl _ _ | assumption | refine Below.alloc ?_ (by first | exact Nat.le_refl _ | (simp only [World.size_alloc, World.size_setCell, World.size_drew]; omega) | omega) _ | refine Below.setCell ?_ (by first | exact Nat.le_refl _ | (simp only [World.size_alloc, World.size_setCell, World.size_drew]; omega) | omega) _ | refine Below.drew ?_))⟩

theorem totS_sq {f : Nat → Nat → Int} {n m : Nat} : ∀ {k : Nat}, k ≤ n → totS (sqM f n m) k = k * m
  | 0, _ => by simp [totS]
  | k+1, h => by rw [totS, totS_sq (by omega), sqM_rlen (by omega), Nat.succ_mul]
theorem sq_small {f : Nat → Nat → Int} {n : Nat} (h : n ≤ 13) : (sqM f n n).length + totS (sqM f n n) (sqM f n n).length ≤ 1048576 := by
  rw [sqM_len, totS_sq (Nat.le_refl _)]
  have := Nat.mul_le_mul h h
  omega
set_option maxRecDepth 100000 in
set_option maxHeartbeats 1000000 in
theorem rowsOf_any (a : Option Addr) (xss : List (List Int)) (cap : Nat) (w : World) (hx : RdC w a xss) (hs : xss.length + totS xss xss.length ≤ 1048576) :
    Calls Try.prog 94 #[.agg #[.slice a xss.length cap]] w fun e w' => ∃ s va vn vc, e = .returned (.tuple #[.agg #[.int .i64 s, .slice va vn vc], .bool (mxB xss)]) ∧ (mxB xss = true → s = matS xss xss.length ∧ ∃ vl, SumP w' w.heap.size (.slice va vn vc) vl xss) ∧ Below w.heap.size w w' := by
  have hlen := hx.rd.len
  have HX := Lib.hid hx
  have HS := Lib.hid hs
  clear hx hs
  go_enter Try.func94, Try.ntmps94
  obtain ⟨W0, hW0⟩ : ∃ x : World, x = (w.alloc (.cells #[.slice a xss.length cap] 40)).alloc (.cells #[.int .i64 0, .slice none 0 0] 109) := ⟨_, rfl⟩
  have HW0 := Lib.hid hW0
  have b0 : Below w.heap.size w W0 := by rw [hW0]; exact (by repeat (first | exact Below.refl _ _ | assumption | refine Below.alloc ?_ (by first | exact Nat.le_refl _ | (simp only [World.size_alloc, World.size_setCell, World.size_drew]; omega) | omega) _ | refine Below.setCell ?_ (by first | exact Nat.le_refl _ | (simp only [World.size_alloc, World.size_setCell, World.size_drew]; omega) | omega) _ | refine Below.drew ?_))
  have c0 : W0.cell? ⟨w.heap.size, 0, none⟩ = some (.slice a xss.length cap) := by rw [hW0]; simp
  have hR0 : Var2 W0 (w.heap.size + 1) (.int .i64 0) (.slice none 0 0) := by
    have h := Var2.new (w.alloc (.cells #[.slice a xss.length cap] 40)) (.int .i64 0) (.slice none 0 0) 109
    rw [World.size_alloc] at h
    rw [hW0]; exact h
  have hz0 : w.heap.size + 2 = W0.heap.size := by rw [hW0]; simp
  have HCALL := Lib.hid (iAddUp_any a xss cap W0 (HX.out.below b0).rd HS.out)
  rw [hW0] at HCALL
  clear hW0
  go_wp2_with fail
  refine HCALL.out.mono ?_
  rintro e w1 ⟨s, va, vn, vc, rfl, hok, hb1⟩
  rw [← HW0.out] at hok hb1
  have b1 : Below w.heap.size w w1 := b0.trans (hb1.mono (by omega))
  have c1 := (hb1.cell (p := ⟨w.heap.size, 0, none⟩) (show w.heap.size < W0.heap.size by omega)).trans c0
  have hR1 := hR0.below hb1
  have hs1 := hb1.size
  clear hb1 b0 c0 hR0 HCALL HW0
  obtain ⟨W2, hW2⟩ : ∃ x : World, x = w1.alloc (.cells #[.int .i64 s, .slice va vn vc] 109) := ⟨_, rfl⟩
  have HW2 := Lib.hid hW2
  have bb2 : Below w1.heap.size w1 W2 := by rw [hW2]; exact (by repeat (first | exact Below.refl _ _ | assumption | refine Below.alloc ?_ (by first | exact Nat.le_refl _ | (simp only [World.size_alloc, World.size_setCell, World.size_drew]; omega) | omega) _ | refine Below.setCell ?_ (by first | exact Nat.le_refl _ | (simp only [World.size_alloc, World.size_setCell, World.size_drew]; omega) | omega) _ | refine Below.drew ?_))
  have b2 : Below w.heap.size w W2 := b1.trans (bb2.mono b1.size)
  have hA2 : Box2 W2 w1.heap.size (.int .i64 s) (.slice va vn vc) := by rw [hW2]; exact Box2.new _ _ _ _
  have hR2 := hR1.below bb2
  have c2 := (bb2.cell (p := ⟨w.heap.size, 0, none⟩) (show w.heap.size < w1.heap.size by omega)).trans c1
  have hs2 : w1.heap.size ≤ W2.heap.size := bb2.size
  clear hR1 c1
  subst hW2
  have ⟨zA2, cA2, dA2⟩ := hA2
  have ⟨⟨zR2, cR2, dR2⟩, fR2, gR2⟩ := hR2
  cases had : adB xss
  · have HF := Lib.hid had
    have HM : Hid (mxB xss = false) := by simp [Hid, mxB, had]
    clear had hok
    go_wp2_with fail
    have hR7 := hR2.set (.int .i64 s) (.slice va vn vc)
    have b7 := (b2.setCell (p := ⟨w.heap.size + 1, 0, none⟩) (by simp) (.int .i64 s)).setCell (p := ⟨w.heap.size + 1, 1, none⟩) (by simp) (.slice va vn vc)
    refine bodyPost_ret (v := .tuple #[.agg #[.int .i64 s, .slice va vn vc], .bool false]) (by have ⟨⟨_, q1, q2⟩, _, _⟩ := hR7; simp [results, Try.results94, go_sem, q1, q2]) rfl ?_
    exact ⟨s, va, vn, vc, by rw [HM.out], (by intro h; rw [HM.out] at h; cases h), b7⟩
  · have HF := Lib.hid had
    have HOK := Lib.hid (hok had)
    have h12 := adB_small had
    clear had hok
    have HUC := Lib.hid (isUpper_any a xss cap _ (HX.out.below b2))
    cases hup : upB xss
    · have HU := Lib.hid hup
      have HM : Hid (mxB xss = false) := by simp [Hid, mxB, hup]
      clear hup
      go_wp2_with fail
      refine HUC.out.mono ?_
      rintro e w3 ⟨rfl, hb3⟩
      rw [HU.out]
      have hA3 := hA2.below hb3
      have hR3 := hR2.below hb3
      have b3 := b2.trans (hb3.mono b2.size)
      have ⟨zA3, cA3, dA3⟩ := hA3
      have ⟨⟨zR3, cR3, dR3⟩, fR3, gR3⟩ := hR3
      clear hb3
      go_wp2_with fail
      have hR7 := hR3.set (.int .i64 s) (.slice va vn vc)
      have b7 := (b3.setCell (p := ⟨w.heap.size + 1, 0, none⟩) (by simp) (.int .i64 s)).setCell (p := ⟨w.heap.size + 1, 1, none⟩) (by simp) (.slice va vn vc)
      refine bodyPost_ret (v := .tuple #[.agg #[.int .i64 s, .slice va vn vc], .bool false]) (by have ⟨⟨_, q1, q2⟩, _, _⟩ := hR7; simp [results, Try.results94, go_sem, q1, q2]) rfl ?_
      exact ⟨s, va, vn, vc, by rw [HM.out], (by intro h; rw [HM.out] at h; cases h), b7⟩
    · have HU := Lib.hid hup
      have HL : Hid (∀ k, k < xss.length → (rowL xss k).length = xss.length) := fun k hk => (upB_iff.1 hup k hk).1
      have HM : Hid (mxB xss = adB (colsL xss)) := by rw [Hid, mxB, HF.out, hup]; rfl
      clear hup
      go_wp2_with fail
      refine HUC.out.mono ?_
      rintro e w3 ⟨rfl, hb3⟩
      rw [HU.out]
      have hA3 := hA2.below hb3
      have hR3 := hR2.below hb3
      have b3 := b2.trans (hb3.mono b2.size)
      have hs3 : w1.heap.size ≤ w3.heap.size := by have := hb3.size; simp at this; omega
      have c3 := (hb3.cell (p := ⟨w.heap.size, 0, none⟩) (by simp; omega)).trans c2
      have ⟨zA3, cA3, dA3⟩ := hA3
      have ⟨⟨zR3, cR3, dR3⟩, fR3, gR3⟩ := hR3
      have bb3 : Below w1.heap.size w1 w3 := bb2.trans (hb3.mono (by simp))
      clear hb3
      go_wp2_with fail
      refine (columnsOf_any a xss cap _ (HX.out.below b3).rd h12 HL.out).mono ?_
      rintro e w4 ⟨g, vlc, rfl, hro, hb4⟩
      have hA4 := hA3.below hb4
      have hR4 := hR3.below hb4
      have b4 := b3.trans (hb4.mono b3.size)
      have hs4 : w3.heap.size ≤ w4.heap.size := hb4.size
      have ⟨zA4, cA4, dA4⟩ := hA4
      have ⟨⟨zR4, cR4, dR4⟩, fR4, gR4⟩ := hR4
      have hAU := iAddUp_any (some ⟨g, 0, none⟩) (colsL xss) xss.length w4 hro.o.rd (by rw [colsL_sq]; exact sq_small (by omega))
      rw [← HM.out, colsL_len] at hAU
      have HAU := Lib.hid hAU
      have bb4 : Below w1.heap.size w1 w4 := bb3.trans (hb4.mono hs3)
      clear hb4 hro hAU
      go_wp2_with fail
      refine HAU.out.mono ?_
      rintro e w5 ⟨s5, va5, vn5, vc5, rfl, _, hb5⟩
      have hA5 := hA4.below hb5
      have hR5 := hR4.below hb5
      have b5 := b4.trans (hb5.mono b4.size)
      have bb5 : Below w1.heap.size w1 w5 := bb4.trans (hb5.mono (by omega))
      have ⟨zA5, cA5, dA5⟩ := hA5
      have ⟨⟨zR5, cR5, dR5⟩, fR5, gR5⟩ := hR5
      have hs5 : w4.heap.size ≤ w5.heap.size := hb5.size
      clear hb5
      go_wp2_with fail
      have hR7 := hR5.set (.int .i64 s) (.slice va vn vc)
      have b7 := (b5.setCell (p := ⟨w.heap.size + 1, 0, none⟩) (by simp) (.int .i64 s)).setCell (p := ⟨w.heap.size + 1, 1, none⟩) (by simp) (.slice va vn vc)
      refine bodyPost_ret (v := .tuple #[.agg #[.int .i64 s, .slice va vn vc], .bool (mxB xss)]) (by have ⟨⟨_, q1, q2⟩, _, _⟩ := hR7; simp [results, Try.results94, go_sem, q1, q2]) rfl ?_
      refine ⟨s, va, vn, vc, rfl, fun _ => ⟨HOK.out.1, ?_⟩, b7⟩
      obtain ⟨vl, hp⟩ := HOK.out.2
      have hp5 := hp.below bb5 (Nat.le_refl _)
      have hset : ∀ (p : Addr) (u : Value) (w9 : World), p.block = w.heap.size + 1 → SumP w9 W0.heap.size (.slice va vn vc) vl xss → SumP (w9.setCell p u) W0.heap.size (.slice va vn vc) vl xss := fun p u w9 e h =>
        ⟨ownsRow_setCell_below h.own (by rw [e]; omega) u, h.vlen, fun k hk => (h.row k hk).setBelow (by rw [e]; omega) u, h.apart, h.pair⟩
      exact ⟨vl, (hset _ _ _ rfl (hset _ _ _ rfl hp5)).mono (by omega)⟩

theorem iIsMatrix_any (a : Option Addr) (xss : List (List Int)) (cap : Nat) (w : World) (hx : RdC w a xss) (hs : xss.length + totS xss xss.length ≤ 1048576) :
    Calls Try.prog 25 #[.agg #[.slice a xss.length cap]] w fun e w' => e = .returned (.bool (mxB xss)) ∧ Below w.heap.size w w' := by
  have hlen := hx.rd.len
  go_enter Try.func25, Try.ntmps25
  go_wp2_with fail
  refine (rowsOf_any _ _ _ _ (hx.below (by repeat (first | exact Below.refl _ _ | assumption | refine Below.alloc ?_ (by first | exact Nat.le_refl _ | (simp only [World.size_alloc, World.size_setCell, World.size_drew]; omega) | omega) _ | refine Below.setCell ?_ (by first | exact Nat.le_refl _ | (simp only [World.size_alloc, World.size_setCell, World.size_drew]; omega) | omega) _ | refine Below.drew ?_))) hs).mono ?_
  rintro e w1 ⟨s, va, vn, vc, rfl, _, hb⟩
  have b1 : Below w.heap.size w w1 := Below.trans (by repeat (first | exact Below.refl _ _ | assumption | refine Below.alloc ?_ (by first | exact Nat.le_refl _ | (simp only [World.size_alloc, World.size_setCell, World.size_drew]; omega) | omega) _ | refine Below.setCell ?_ (by first | exact Nat.le_refl _ | (simp only [World.size_alloc, World.size_setCell, World.size_drew]; omega) | omega) _ | refine Below.drew ?_)) (hb.mono (by first | (simp only [World.size_alloc, World.size_setCell, World.size_drew]; omega) | omega))
  clear hb
  go_wp2_with fail
  go_ret
  exact ⟨rfl, b1.alloc b1.size _⟩

/-- the rows that have been made in the other order -/
theorem RowsP.rev {w w' : World} {B g n c : Nat} {vl : List Value} {xss : List (List Int)} (h : RowsP w B (.slice (some ⟨g, 0, none⟩) n c) vl xss) (hn : n = xss.length) (ho : w'.ownsRow B 24 1 (.slice (some ⟨g, 0, none⟩) n c) n vl.reverse) (hg : w.grownBy w' (some g)) : RowsP w' B (.slice (some ⟨g, 0, none⟩) n c) vl.reverse xss.reverse := by
  have hl := h.o.vlen
  have hv : ∀ k, k < xss.length → valAt vl.reverse k = valAt vl (xss.length - 1 - k) := fun k hk => by
    simp [valAt, List.getD_eq_getElem?_getD, List.getElem?_reverse (show k < vl.length by omega), hl]
  have hr : ∀ k, k < xss.length → rowL xss.reverse k = rowL xss (xss.length - 1 - k) := fun k hk => by
    simp [rowL, List.getD_eq_getElem?_getD, List.getElem?_reverse hk]
  refine ⟨⟨by rw [List.length_reverse, ← hn]; exact ho, fun k hk => ?_, fun k hk c hc => ?_⟩, fun j k hjk hk c hc => ?_⟩
  · rw [List.length_reverse] at hk
    rw [hv k hk, hr k hk]
    refine (h.o.row _ (by omega)).kept hg (own_nb (fun c h1 h2 => ?_))
    exact h.o.apart _ (by omega) c h1 (by rw [h2]; rfl)
  · rw [List.length_reverse] at hk
    rw [hv k hk] at hc
    exact h.o.apart _ (by omega) c hc
  · rw [List.length_reverse] at hk
    rw [hv j (by omega)] at hc
    rw [hv k hk]
    intro h2
    exact h.pair (xss.length - 1 - k) (xss.length - 1 - j) (by omega) (by omega) c h2 hc
/-- a row of the rows has been written -/
theorem RowsP.setRow {w w' : World} {B : Nat} {v : Value} {vl : List Value} {xss : List (List Int)} (h : RowsP w B v vl xss) {k : Nat} (hk : k < xss.length) {r : List Int} (hr : OwnI w' B (valAt vl k) r) (hg : w.grownBy w' (valAt vl k).ownBlock) : RowsP w' B v vl (xss.set k r) := by
  have hrow : ∀ j, j < xss.length → rowL (xss.set k r) j = if j = k then r else rowL xss j := by
    intro j hj
    simp only [rowL, List.getD_eq_getElem?_getD, List.getElem?_set]
    by_cases e : k = j
    · subst e; simp [hk]
    · simp [e, Ne.symm e]
  refine ⟨⟨?_, fun j hj => ?_, fun j hj => ?_⟩, fun i j hij hj => ?_⟩
  · rw [List.length_set]
    exact World.ownsRow.kept h.o.own hg (own_ne (fun c h1 h2 => h.o.apart k hk c h2 h1))
  · rw [List.length_set] at hj
    rw [hrow j hj]
    split
    · rename_i e; rw [e]; exact hr
    · rename_i e
      refine (h.o.row j hj).kept hg (own_ne (fun c h1 h2 => ?_))
      rcases Nat.lt_or_gt_of_ne e with h3 | h3
      · exact h.pair j k h3 hk c h1 h2
      · exact h.pair k j h3 hj c h2 h1
  · rw [List.length_set] at hj
    exact h.o.apart j hj
  · rw [List.length_set] at hj
    exact h.pair i j hij hj
def duT (f : Nat → Nat → Int) (n k : Nat) (a b : Nat) : Int := if a < k then f a (n - 1 - b) else f a b
theorem duT_zero {f : Nat → Nat → Int} {n : Nat} : sqM f n n = sqM (duT f n 0) n n := sqM_congr (fun a ha b hb => by rw [duT, if_neg (by omega)])
theorem duT_end {f : Nat → Nat → Int} {n : Nat} : sqM (duT f n n) n n = sqM (fun a b => f a (n - 1 - b)) n n := sqM_congr (fun a ha b hb => by rw [duT, if_pos ha])
theorem fmap_rev {f : Nat → Int} {n : Nat} : (fmap f n).reverse = fmap (fun b => f (n - 1 - b)) n := by
  apply List.ext_getElem?
  intro i
  by_cases hi : i < n
  · rw [List.getElem?_reverse (by rw [fmap_len]; exact hi), fmap_len]
    simp [fmap, hi, show n - 1 - i < n by omega]
  · rw [List.getElem?_eq_none (by rw [List.length_reverse, fmap_len]; omega), List.getElem?_eq_none (by rw [fmap_len]; omega)]
theorem duT_step {f : Nat → Nat → Int} {n k : Nat} (hk : k < n) : (sqM (duT f n k) n n).set k (rowL (sqM (duT f n k) n n) k).reverse = sqM (duT f n (k+1)) n n := by
  refine rows_ext (by simp [sqM]) (fun i hi => ?_)
  rw [List.length_set, sqM_len] at hi
  have : ∀ r, rowL ((sqM (duT f n k) n n).set k r) i = if i = k then r else rowL (sqM (duT f n k) n n) i := by
    intro r
    simp only [rowL, List.getD_eq_getElem?_getD, List.getElem?_set]
    by_cases e : k = i
    · subst e; simp [sqM_len, hk]
    · simp [e, Ne.symm e]
  rw [this, sqM_row hk, sqM_row hi, sqM_row hi]
  split
  · rename_i e
    subst e
    rw [fmap_rev]
    exact fmap_ext (fun b hb => by rw [duT, duT, if_neg (by omega), if_pos (by omega)])
  · exact fmap_ext (fun b hb => by
      rw [duT, duT]
      by_cases h : i < k
      · rw [if_pos h, if_pos (by omega)]
      · rw [if_neg h, if_neg (by omega)])
theorem sqM_rev {f : Nat → Nat → Int} {n m : Nat} : (sqM f n m).reverse = sqM (fun a b => f (n - 1 - a) b) n m := by
  refine rows_ext (by simp [sqM]) (fun i hi => ?_)
  rw [List.length_reverse, sqM_len] at hi
  rw [sqM_row hi]
  have : rowL (sqM f n m).reverse i = rowL (sqM f n m) (n - 1 - i) := by
    simp [rowL, List.getD_eq_getElem?_getD, List.getElem?_reverse (show i < (sqM f n m).length by rw [sqM_len]; exact hi), sqM_len]
  rw [this, sqM_row (by omega)]
set_option maxRecDepth 100000 in
set_option maxHeartbeats 1000000 in
theorem iDual_any (a : Option Addr) (xss : List (List Int)) (cap : Nat) (w : World) (hx : RdC w a xss) (hs : xss.length + totS xss xss.length ≤ 1048576) :
    Calls Try.prog 67 #[.agg #[.slice a xss.length cap]] w fun e w' => ∃ a0 c0 vl, e = .returned (.tuple #[.agg #[.slice a0 (duL xss).length c0], .bool (mxB xss)]) ∧ RowsP w' w.heap.size (.slice a0 (duL xss).length c0) vl (duL xss) ∧ Below w.heap.size w w' := by
  have hlen := hx.rd.len
  have hV := Var1.new (w.alloc (.cells #[.slice a xss.length cap] 40)) (.slice none 0 0) 40
  have hb0 : Below w.heap.size w ((w.alloc (.cells #[.slice a xss.length cap] 40)).alloc (.cells #[.slice none 0 0] 40)) := (by repeat (first | exact Below.refl _ _ | assumption | refine Below.alloc ?_ (by first | exact Nat.le_refl _ | (simp only [World.size_alloc, World.size_setCell, World.size_drew]; omega) | omega) _ | refine Below.setCell ?_ (by first | exact Nat.le_refl _ | (simp only [World.size_alloc, World.size_setCell, World.size_drew]; omega) | omega) _ | refine Below.drew ?_))
  rw [World.size_alloc] at hV
  have HCL := Lib.hid (fun W (h : RdC W a xss) => iIsMatrix_any a xss cap W h hs)
  cases hm : mxB xss
  · have HM := Lib.hid hm
    have H1 : Hid (duL xss = []) := by simp [Hid, duL, hm]
    clear hm
    go_enter Try.func67, Try.ntmps67
    go_wp2_with fail
    refine (HCL.out _ (hx.below hb0)).mono ?_
    rintro e w1 ⟨rfl, hb⟩
    rw [HM.out]
    have b1 : Below w.heap.size w w1 := hb0.trans (hb.mono (by simp; omega))
    have hV1 := hV.below hb
    have ⟨⟨zV, cV⟩, fV⟩ := hV1
    clear hb hV
    go_wp2_with fail
    have hV2 := hV1.set (.slice none 0 0)
    have b2 := b1.setCell (p := ⟨w.heap.size + 1, 0, none⟩) (by simp) (.slice none 0 0)
    refine bodyPost_ret (v := .tuple #[.agg #[.slice none 0 0], .bool false]) (by have ⟨⟨_, q1⟩, _⟩ := hV2; simp [results, Try.results67, go_sem, q1]) rfl ?_
    exact ⟨none, 0, [], by rw [H1.out]; rfl, by rw [H1.out]; exact RowsP.nil _ _, b2⟩
  · have HM := Lib.hid hm
    have h12 := mxB_small hm
    obtain ⟨F, hF⟩ : ∃ F : Nat → Nat → Int, F = fun a b => atM xss b (xss.length - 1 - a) := ⟨_, rfl⟩
    have H1 : Hid (duL xss = sqM (fun a b => F a (xss.length - 1 - b)) xss.length xss.length) := by rw [Hid, duL, if_pos hm, hF]
    have HC : Hid ((colsL xss).reverse = sqM F xss.length xss.length) := by rw [Hid, colsL_sq, sqM_rev, hF]
    have HX := Lib.hid hx
    have HCO := Lib.hid (fun W hb => columnsOf_any a xss cap W (hx.rd.below hb) h12 (fun k hk => mxB_len hm hk))
    clear hm hF hx
    go_enter Try.func67, Try.ntmps67
    go_wp2_with fail
    refine (HCL.out _ (HX.out.below hb0)).mono ?_
    rintro e w1 ⟨rfl, hb⟩
    rw [HM.out]
    have b1 : Below w.heap.size w w1 := hb0.trans (hb.mono (by simp; omega))
    have hV1 := hV.below hb
    have hc1 := (hb.cell (p := ⟨w.heap.size, 0, none⟩) (by simp; omega)).trans (show _ = some (Value.slice a xss.length cap) by simp)
    have hz1 : w.heap.size + 2 ≤ w1.heap.size := by have := hb.size; simp at this; omega
    clear hb hV hb0 HCL
    go_wp2_with fail
    refine (HCO.out _ b1).mono ?_
    rintro e w2 ⟨g, vl, rfl, hro, hb2⟩
    have hV2 := hV1.below hb2
    have b2 := b1.trans (hb2.mono b1.size)
    have hz2 : w.heap.size + 2 ≤ w2.heap.size := by have := hb2.size; omega
    have hro2 := hro.mono (B' := w.heap.size + 2) hz1
    have hsl : ∀ i, i < xss.length → ∃ a m c, valAt vl i = .slice a m c := fun i hi => by
      obtain ⟨a9, c9, e9⟩ := (hro2.o.row i (by rw [colsL_len]; exact hi)).form
      exact ⟨a9, _, c9, e9⟩
    have hgl := hro2.o.lt g rfl
    have hown := hro2.o.own
    rw [colsL_len] at hown
    have HREV := Lib.hid (revRows_any g xss.length xss.length _ vl w2 hown hsl (by omega))
    have HRO := Lib.hid hro2
    have HV2 := Lib.hid hV2
    obtain ⟨N, hN⟩ : ∃ N, N = xss.length := ⟨_, rfl⟩
    have HN := Lib.hid hN
    rw [← hN] at HREV H1 HC hlen h12 HRO ⊢
    clear hro hro2 hV2 hV1 hb2 hsl hown HCO hc1 hs hN
    go_wp2_with fail
    refine HREV.out.mono ?_
    rintro e w3 ⟨rfl, ho3, hg3⟩
    have hro3 := HRO.out.rev (by rw [colsL_len]; exact HN.out) ho3 hg3
    rw [HC.out, duT_zero] at hro3
    have b3 := b2.trans (grown_below hg3 w.heap.size (by omega) (by omega))
    have hV3 := HV2.out.kept hg3 (by simp; omega)
    have HRO3 := Lib.hid hro3
    have HV3 := Lib.hid hV3
    obtain ⟨ul, hul⟩ : ∃ ul, ul = vl.reverse := ⟨_, rfl⟩
    rw [← hul] at HRO3
    clear hro3 ho3 hg3 hV3 b1 b2 HREV hul
    go_wp2_with fail
    go_loopw [17] (fun i wr => ∃ k : Nat, k ≤ N ∧ i = .int .i64 k ∧ RowsP wr (w.heap.size + 2) (.slice (some ⟨g, 0, none⟩) N N) ul (sqM (duT F N k) N N) ∧ Var1 wr (w.heap.size + 1) (.slice none 0 0) ∧ Below w.heap.size w wr) (fun i _ => N - (intOf i).toNat)
    case atStart => exact ⟨0, Nat.zero_le _, rfl, HRO3.out, HV3.out, b3⟩
    case round =>
      clear b3
      obtain ⟨k, hk, rfl, hro, hV, hb⟩ := hrel
      have hbs := hb.size
      by_cases hlt : k < N
      · have k1 : (k : Int) < (N : Int) := by omega
        obtain ⟨g4, e4, hg4, hg5, hc4, hf4⟩ := hro.outer (k := k) (by rw [sqM_len]; exact hlt)
        simp only [Option.some.injEq, Addr.mk.injEq, and_true] at e4
        subst e4
        have hrow := hro.o.row k (by rw [sqM_len]; exact hlt)
        obtain ⟨ar, cr, er⟩ := hrow.form
        have hst : Hid (∀ (w9 : World), OwnI w9 (w.heap.size + 2) (valAt ul k) (rowL (sqM (duT F N k) N N) k).reverse → wr.grownBy w9 (valAt ul k).ownBlock → RowsP w9 (w.heap.size + 2) (.slice (some ⟨g, 0, none⟩) N N) ul (sqM (duT F N (k+1)) N N)) := fun w9 h1 h2 => by
          have h := hro.setRow (k := k) (by rw [sqM_len]; exact hlt) h1 h2
          rw [duT_step hlt] at h
          exact h
        have HRL : Hid ((rowL (sqM (duT F N k) N N) k).length = N) := sqM_rlen hlt
        rw [er] at hc4 hrow hst
        have HRV := Lib.hid (revOwn ar cr (rowL (sqM (duT F N k) N N) k) (w.heap.size + 2) wr hrow)
        have hul := hrow.lt
        have HV1 := Lib.hid hV
        obtain ⟨R, hR⟩ : ∃ R, R = rowL (sqM (duT F N k) N N) k := ⟨_, rfl⟩
        rw [← hR] at hc4 HRV hst HRL
        rw [← hR] at hul
        clear hro hV hrow er hR
        go_wp2_with fail
        refine HRV.out.mono ?_
        rintro e w9 ⟨rfl, ho9, hg9⟩
        have hro9 := hst.out w9 ho9 hg9
        have hV9 := HV1.out.kept hg9 (ne_own (fun c e => by have := (hul c e).1; omega))
        have b9 := hb.trans (below_of_grown hg9 (fun c e => by have := (hul c e).1; omega) hbs)
        clear ho9 hg9
        go_wp2_with fail
        go_roundw
        case rel => exact ⟨k + 1, by omega, by go_num, hro9, hV9, b9⟩
        case measure => simp [intOf]; omega
      · obtain rfl : k = N := by omega
        rw [duT_end] at hro
        have ⟨⟨zV, cV⟩, fV⟩ := hV
        have HV1 := Lib.hid hV
        have HRO1 := Lib.hid hro
        clear hro hV
        go_wp2_with fail
        have hV2 := HV1.out.set (.slice (some ⟨g, 0, none⟩) k k)
        have b2 := hb.setCell (p := ⟨w.heap.size + 1, 0, none⟩) (by simp) (.slice (some ⟨g, 0, none⟩) k k)
        refine bodyPost_ret (v := .tuple #[.agg #[.slice (some ⟨g, 0, none⟩) k k], .bool true]) (by have ⟨⟨_, q1⟩, _⟩ := hV2; simp [results, Try.results67, go_sem, q1]) rfl ?_
        exact ⟨_, k, ul, by rw [H1.out, sqM_len], by rw [H1.out, sqM_len]; exact (HRO1.out.setBelow (show w.heap.size + 1 < w.heap.size + 2 by omega) _).mono (by omega), b2⟩

theorem maTotal_any (a : Option Addr) (xs : List Int) (cap : Nat) (w : World) (hx : Rd w a xs) (hs : xs.length ≤ 1048576) (hv : ∀ j, j < xs.length → 0 ≤ nth xs j ∧ nth xs j ≤ 12) :
    Calls Try.prog 249 #[.slice a xs.length cap] w fun e w' => e = .returned (.int .i64 (totR xs)) ∧ w = w' := by
  have HV := Lib.hid hv
  have HB : Hid (∀ k, k ≤ xs.length → 0 ≤ totI xs k ∧ totI xs k ≤ 12 * (k : Int)) := by
    intro k
    induction k with
    | zero => intro _; simp [totI]
    | succ k ih =>
      intro hk
      have h1 := ih (by omega)
      have h2 := hv k (by omega)
      rw [totI]; omega
  clear hv
  go_enter Try.func249, Try.ntmps249
  go_wp2_with fail
  go_loop [3, 8] (fun m i => ∃ k : Nat, k ≤ xs.length ∧ i = .int .i64 k ∧ m = .int .i64 (totI xs k)) (fun _ i => xs.length - (intOf i).toNat)
  case atStart => exact ⟨0, Nat.zero_le _, rfl, rfl⟩
  case round =>
    obtain ⟨k, hk, rfl, rfl⟩ := hrel
    have ⟨h1, h2⟩ := HB.out k hk
    by_cases hlt : k < xs.length
    · obtain ⟨b, off, rfl, hbl, hc⟩ := hx.cell k hlt
      have ⟨h3, h4⟩ := HV.out k hlt
      have HN : Hid (totI xs (k+1) = totI xs k + nth xs k) := rfl
      go_wp2_with fail
      go_round
      case rel => exact ⟨k + 1, by omega, by go_num, val_int (by rw [HN.out])⟩
      case measure => simp [intOf]; omega
    · obtain rfl : k = xs.length := by omega
      go_wp2_with fail
      go_ret
      exact ⟨rfl, rfl⟩

set_option maxRecDepth 100000 in
theorem maSum_any (a : Option Addr) (xss : List (List Int)) (cap : Nat) (w : World) (hx : RdS w a xss) (h12 : xss.length ≤ 12) (hl : ∀ k, k < xss.length → (rowL xss k).length = xss.length) (hv : ∀ k, k < xss.length → ∀ j, j < (rowL xss k).length → 0 ≤ nth (rowL xss k) j ∧ nth (rowL xss k) j ≤ 12) :
    Calls Try.prog 219 #[.agg #[.slice a xss.length cap]] w fun e w' => e = .returned (.int .i64 (matS xss xss.length)) ∧ Below w.heap.size w w' := by
  have hlen := hx.len
  have HV := Lib.hid hv
  have HL := Lib.hid hl
  have HR : Hid (∀ k, k < xss.length → 0 ≤ totR (rowL xss k) ∧ totR (rowL xss k) ≤ 144) := by
    intro k hk
    have h3 : ∀ j, j ≤ (rowL xss k).length → 0 ≤ totI (rowL xss k) j ∧ totI (rowL xss k) j ≤ 12 * (j : Int) := by
      intro j
      induction j with
      | zero => intro _; simp [totI]
      | succ j ih =>
        intro hj
        have h1 := ih (by omega)
        have h2 := hv k hk j (by omega)
        rw [totI]; omega
    have h4 := h3 _ (Nat.le_refl _)
    have h5 := hl k hk
    rw [totR]; omega
  have HB : Hid (∀ k, k ≤ xss.length → 0 ≤ matS xss k ∧ matS xss k ≤ 144 * (k : Int)) := by
    intro k
    induction k with
    | zero => intro _; simp [matS]
    | succ k ih =>
      intro hk
      have h1 := ih (by omega)
      have h2 := HR.out k (by omega)
      rw [matS]; omega
  clear hv hl
  go_enter Try.func219, Try.ntmps219
  go_wp2_with fail
  go_loop [3, 9] (fun m i => ∃ k : Nat, k ≤ xss.length ∧ i = .int .i64 k ∧ m = .int .i64 (matS xss k)) (fun _ i => xss.length - (intOf i).toNat)
  case atStart => exact ⟨0, Nat.zero_le _, rfl, rfl⟩
  case round =>
    obtain ⟨k, hk, rfl, rfl⟩ := hrel
    have ⟨h1, h2⟩ := HB.out k hk
    by_cases hlt : k < xss.length
    · obtain ⟨b, off, a', cap', rfl, hbl, hc, hr⟩ := (hx.below (show Below w.heap.size w (w.alloc (.cells #[.slice a xss.length cap] 40)) from (by repeat (first | exact Below.refl _ _ | assumption | refine Below.alloc ?_ (by first | exact Nat.le_refl _ | (simp only [World.size_alloc, World.size_setCell, World.size_drew]; omega) | omega) _ | refine Below.setCell ?_ (by first | exact Nat.le_refl _ | (simp only [World.size_alloc, World.size_setCell, World.size_drew]; omega) | omega) _ | refine Below.drew ?_)))).row k hlt
      have ⟨h3, h4⟩ := HR.out k hlt
      have h5 := HL.out k hlt
      have k1 : (k : Int) < (xss.length : Int) := by omega
      have HC := Lib.hid (fun W (hr : Rd W a' (rowL xss k)) => maTotal_any a' (rowL xss k) cap' W hr (by omega) (HV.out k hlt))
      have HN : Hid (matS xss (k+1) = matS xss k + totR (rowL xss k)) := rfl
      obtain ⟨T, hT⟩ : ∃ T, T = totR (rowL xss k) := ⟨_, rfl⟩
      obtain ⟨S, hS⟩ : ∃ S, S = matS xss k := ⟨_, rfl⟩
      rw [← hT] at h3 h4 HN HC
      rw [← hS] at h1 h2 HN ⊢
      clear hT hS h5
      go_wp2_with fail
      refine (HC.out _ hr).mono ?_
      rintro e w' ⟨rfl, rfl⟩
      clear hr
      go_wp2_with fail
      go_round
      case rel => exact ⟨k + 1, by omega, by go_num, val_int (by rw [HN.out])⟩
      case measure => simp [intOf]; omega
    · obtain rfl : k = xss.length := by omega
      go_wp2_with fail
      go_ret
      exact ⟨rfl, (by repeat (first | exact Below.refl _ _ | assumption | refine Below.alloc ?_ (by first | exact Nat.le_refl _ | (simp only [World.size_alloc, World.size_setCell, World.size_drew]; omega) | omega) _ | refine Below.setCell ?_ (by first | exact Nat.le_refl _ | (simp only [World.size_alloc, World.size_setCell, World.size_drew]; omega) | omega) _ | refine Below.drew ?_))⟩

theorem maColumn_any (a : Option Addr) (xss : List (List Int)) (cap : Nat) (j : Nat) (w : World) (hx : RdS w a xss) (h12 : xss.length ≤ 12) (hj : ∀ k, k < xss.length → j < (rowL xss k).length) :
    Calls Try.prog 218 #[.agg #[.slice a xss.length cap], .int .i64 (j : Int)] w fun e w' => ∃ a' cap', e = .returned (.slice a' xss.length cap') ∧ OwnI w' w.heap.size (.slice a' xss.length cap') (colL xss j) ∧ Below w.heap.size w w' := by
  have hlen := hx.len
  have HJ := Lib.hid hj
  clear hj
  go_enter Try.func218, Try.ntmps218
  go_wp2_with fail
  go_loopw [5, 11] (fun v i wr => ∃ k : Nat, k ≤ xss.length ∧ i = .int .i64 k ∧ OwnI wr w.heap.size v (fmap (fun i => atM xss i j) k) ∧ Below w.heap.size w wr) (fun _ i _ => xss.length - (intOf i).toNat)
  case atStart => exact ⟨0, Nat.zero_le _, rfl, OwnI.nil _ _, (by repeat (first | exact Below.refl _ _ | assumption | refine Below.alloc ?_ (by first | exact Nat.le_refl _ | (simp only [World.size_alloc, World.size_setCell, World.size_drew]; omega) | omega) _ | refine Below.setCell ?_ (by first | exact Nat.le_refl _ | (simp only [World.size_alloc, World.size_setCell, World.size_drew]; omega) | omega) _ | refine Below.drew ?_))⟩
  case round =>
    obtain ⟨k, hk, rfl, hown, hb⟩ := hrel
    have hbs := hb.size
    by_cases hlt : k < xss.length
    · obtain ⟨b, off, a', cap', rfl, hbl, hc, hr⟩ := (hx.below hb).row k hlt
      have h5 := HJ.out k hlt
      have k1 : (k : Int) < (xss.length : Int) := by omega
      obtain ⟨b2, off2, rfl, hbl2, hc2⟩ := hr.cell j h5
      have hrl := hr.len
      have j1 : (j : Int) < ((rowL xss k).length : Int) := by omega
      have HN : Hid (fmap (fun i => atM xss i j) (k+1) = fmap (fun i => atM xss i j) k ++ [nth (rowL xss k) j]) := fmap_succ _ _
      obtain ⟨ys, hys⟩ : ∃ ys, ys = fmap (fun i => atM xss i j) k := ⟨_, rfl⟩
      have hyl : ys.length = k := by rw [hys, fmap_len]
      rw [← hys] at hown HN
      clear hys
      go_wp2_with (at_builtin; refine push_at rfl _ _ rfl (z := nth (rowL xss k) j) rfl hown rfl (by omega) (by omega) ?_)
      intro v3 w3 o3 hg _
      have hU := hown.lt
      have b3 := hb.trans (below_of_grown hg (fun c e => (hU c e).1) hbs)
      clear hg hown
      go_wp2_with fail
      go_roundw
      case rel => exact ⟨k + 1, by omega, by go_num, by rw [HN.out]; exact o3, b3⟩
      case measure => simp [intOf]; omega
    · obtain rfl : k = xss.length := by omega
      have hfm := hown.form
      rw [fmap_len] at hfm
      obtain ⟨a', cap', rfl⟩ := hfm
      go_wp2_with fail
      go_ret
      exact ⟨a', cap', rfl, hown, hb⟩

set_option maxRecDepth 100000 in
theorem maGood_any (a : Option Addr) (xss : List (List Int)) (cap : Nat) (w : World) (hx : RdS w a xss) :
    Calls Try.prog 143 #[.agg #[.slice a xss.length cap]] w fun e w' => e = .returned (.bool (mxB xss)) ∧ Below w.heap.size w w' := by
  have hlen := hx.len
  have HX := Lib.hid hx
  by_cases h12 : 12 < xss.length
  · have H : Hid (mxB xss = false) := by
      rw [Hid, ← Bool.not_eq_true]
      intro h
      have := mxB_small h
      omega
    go_enter Try.func143, Try.ntmps143
    go_wp2_with fail
    go_ret
    exact ⟨ret_bool H.out.symm, (by repeat (first | exact Below.refl _ _ | assumption | refine Below.alloc ?_ (by first | exact Nat.le_refl _ | (simp only [World.size_alloc, World.size_setCell, World.size_drew]; omega) | omega) _ | refine Below.setCell ?_ (by first | exact Nat.le_refl _ | (simp only [World.size_alloc, World.size_setCell, World.size_drew]; omega) | omega) _ | refine Below.drew ?_))⟩
  · go_enter Try.func143, Try.ntmps143
    go_wp2_with fail
    go_loopw [17] (fun i wr => ∃ k : Nat, k ≤ xss.length ∧ i = .int .i64 k ∧ Hid (∀ j, j < k → rowG xss j) ∧ wr = (w.alloc (.cells #[.slice a xss.length cap] 40))) (fun i _ => xss.length - (intOf i).toNat)
    case atStart => exact ⟨0, Nat.zero_le _, rfl, fun j hj => by omega, rfl⟩
    case round =>
      obtain ⟨k, hk, rfl, HR, rfl⟩ := hrel
      by_cases hlt : k < xss.length
      · obtain ⟨b, off, a', cap', rfl, hbl, hc, hr⟩ := (HX.out.below (show Below w.heap.size w (w.alloc (.cells #[.slice a xss.length cap] 40)) from (by repeat (first | exact Below.refl _ _ | assumption | refine Below.alloc ?_ (by first | exact Nat.le_refl _ | (simp only [World.size_alloc, World.size_setCell, World.size_drew]; omega) | omega) _ | refine Below.setCell ?_ (by first | exact Nat.le_refl _ | (simp only [World.size_alloc, World.size_setCell, World.size_drew]; omega) | omega) _ | refine Below.drew ?_)))).row k hlt
        have k1 : (k : Int) < (xss.length : Int) := by omega
        by_cases hq : (rowL xss k).length = xss.length
        · have hqq : (((rowL xss k).length : Int) != (xss.length : Int)) = false := by simp [hq]
          have HQ := Lib.hid hq
          have hrl := hr.len
          cases hal : allB (rowL xss k) 0 12
          · have H : Hid (mxB xss = false) := by
              rw [Hid, ← Bool.not_eq_true]
              intro h
              rw [(rowG_of h hlt).2.1] at hal
              cases hal
            have HA := Lib.hid hal
            clear hq hal
            go_wp2_with fail
            refine (l1All_any _ _ _ _ _ _ hr).mono ?_
            rintro e w' ⟨rfl, rfl⟩
            rw [HA.out]
            go_wp2_with fail
            go_ret
            exact ⟨ret_bool H.out.symm, (by repeat (first | exact Below.refl _ _ | assumption | refine Below.alloc ?_ (by first | exact Nat.le_refl _ | (simp only [World.size_alloc, World.size_setCell, World.size_drew]; omega) | omega) _ | refine Below.setCell ?_ (by first | exact Nat.le_refl _ | (simp only [World.size_alloc, World.size_setCell, World.size_drew]; omega) | omega) _ | refine Below.drew ?_))⟩
          · have HA := Lib.hid hal
            by_cases hm : mostTo (rowL xss k) (rowL xss k).length = 0
            · have H : Hid (mxB xss = false) := by
                rw [Hid, ← Bool.not_eq_true]
                intro h
                exact (rowG_of h hlt).2.2.1 hm
              have HM := Lib.hid hm
              clear hq hal hm
              go_wp2_with fail
              refine (l1All_any _ _ _ _ _ _ hr).mono ?_
              rintro e w' ⟨rfl, rfl⟩
              rw [HA.out]
              go_wp2_with fail
              refine (ivMost_any _ _ _ _ hr).mono ?_
              rintro e w' ⟨rfl, rfl⟩
              rw [HM.out]
              go_wp2_with fail
              go_ret
              exact ⟨ret_bool H.out.symm, (by repeat (first | exact Below.refl _ _ | assumption | refine Below.alloc ?_ (by first | exact Nat.le_refl _ | (simp only [World.size_alloc, World.size_setCell, World.size_drew]; omega) | omega) _ | refine Below.setCell ?_ (by first | exact Nat.le_refl _ | (simp only [World.size_alloc, World.size_setCell, World.size_drew]; omega) | omega) _ | refine Below.drew ?_))⟩
            · have hmm : (mostTo (rowL xss k) (rowL xss k).length == 0) = false := by simp [hm]
              have HM := Lib.hid hm
              have HRD := Lib.hid hr
              clear hq hal hm
              obtain ⟨M, hM⟩ : ∃ M, M = mostTo (rowL xss k) (rowL xss k).length := ⟨_, rfl⟩
              have HMM := Lib.hid hM
              rw [← hM] at hmm
              clear hM
              go_wp2_with fail
              refine (l1All_any _ _ _ _ _ _ hr).mono ?_
              rintro e w' ⟨rfl, rfl⟩
              rw [HA.out]
              go_wp2_with fail
              refine (ivMost_any _ _ _ _ hr).mono ?_
              rintro e w' ⟨rfl, rfl⟩
              rw [← HMM.out]
              clear hr
              go_wp2_with fail
              go_loop [38] (fun i => ∃ q : Nat, q ≤ (rowL xss k).length ∧ i = .int .i64 q ∧ Hid (∀ j, j < q → j < k → atM xss k j = 0)) (fun i => (rowL xss k).length - (intOf i).toNat)
              case atStart => exact ⟨0, Nat.zero_le _, rfl, fun j hj => by omega⟩
              case round =>
                obtain ⟨q, hq2, rfl, HU⟩ := hrel
                by_cases hlt2 : q < (rowL xss k).length
                · obtain ⟨b2, off2, rfl, hbl2, hc2⟩ := HRD.out.cell q hlt2
                  have q1 : (q : Int) < ((rowL xss k).length : Int) := by omega
                  by_cases hqk : q < k
                  · have hqi : (q : Int) < (k : Int) := by omega
                    by_cases hp : 0 < nth (rowL xss k) q
                    · have H : Hid (mxB xss = false) := by
                        rw [Hid, ← Bool.not_eq_true]
                        intro h
                        have := (rowG_of h hlt).2.2.2 q hqk
                        rw [atM] at this
                        omega
                      go_wp2_with fail
                      go_ret
                      exact ⟨ret_bool H.out.symm, (by repeat (first | exact Below.refl _ _ | assumption | refine Below.alloc ?_ (by first | exact Nat.le_refl _ | (simp only [World.size_alloc, World.size_setCell, World.size_drew]; omega) | omega) _ | refine Below.setCell ?_ (by first | exact Nat.le_refl _ | (simp only [World.size_alloc, World.size_setCell, World.size_drew]; omega) | omega) _ | refine Below.drew ?_))⟩
                    · have HZ : Hid (atM xss k q = 0) := by
                        have := (allB_nth HA.out hlt2).1
                        rw [Hid, atM]; omega
                      go_wp2_with fail
                      go_round
                      case rel =>
                        refine ⟨q + 1, by omega, by go_num, fun j hj hjk => ?_⟩
                        by_cases e : j = q
                        · rw [e]; exact HZ.out
                        · exact HU.out j (by omega) hjk
                      case measure => simp [intOf]; omega
                  · have hqi : ¬ (q : Int) < (k : Int) := by omega
                    go_wp2_with fail
                    go_round
                    case rel =>
                      refine ⟨q + 1, by omega, by go_num, fun j hj hjk => HU.out j (by omega) hjk⟩
                    case measure => simp [intOf]; omega
                · have HG : Hid (rowG xss k) := ⟨HQ.out, HA.out, HM.out, fun j hj => HU.out j (by rw [HQ.out] at hlt2; rw [HQ.out] at hq2; have := HQ.out; omega) hj⟩
                  go_wp2_with fail
                  go_roundw
                  case rel =>
                    refine ⟨k + 1, by omega, by go_num, fun j hj => ?_, ?_⟩
                    · by_cases e : j = k
                      · rw [e]; exact HG.out
                      · exact HR.out j (by omega)
                    · first | rfl | trivial
                  case measure => simp [intOf]; omega
        · have hqq : (((rowL xss k).length : Int) != (xss.length : Int)) = true := by simp; omega
          have H : Hid (mxB xss = false) := by
            rw [Hid, ← Bool.not_eq_true]
            intro h
            exact hq (mxB_len h hlt)
          clear hq
          go_wp2_with fail
          go_ret
          exact ⟨ret_bool H.out.symm, (by repeat (first | exact Below.refl _ _ | assumption | refine Below.alloc ?_ (by first | exact Nat.le_refl _ | (simp only [World.size_alloc, World.size_setCell, World.size_drew]; omega) | omega) _ | refine Below.setCell ?_ (by first | exact Nat.le_refl _ | (simp only [World.size_alloc, World.size_setCell, World.size_drew]; omega) | omega) _ | refine Below.drew ?_))⟩
      · obtain rfl : k = xss.length := by omega
        have HL : Hid (∀ k, k < xss.length → (rowL xss k).length = xss.length) := fun k hk => (HR.out k hk).1
        have HV : Hid (∀ k, k < xss.length → ∀ j, j < (rowL xss k).length → 0 ≤ nth (rowL xss k) j ∧ nth (rowL xss k) j ≤ 12) := fun k hk j hj => allB_nth (HR.out k hk).2.1 hj
        clear hx
        go_wp2_with fail
        go_loopw [55] (fun i wr => ∃ k : Nat, k ≤ xss.length ∧ i = .int .i64 k ∧ Hid (∀ j, j < k → colG xss j) ∧ Below w.heap.size w wr ∧ wr.cell? ⟨w.heap.size, 0, none⟩ = some (.slice a xss.length cap) ∧ w.heap.size < wr.heap.size) (fun i _ => xss.length - (intOf i).toNat)
        case atStart => exact ⟨0, Nat.zero_le _, rfl, fun j hj => by omega, (by repeat (first | exact Below.refl _ _ | assumption | refine Below.alloc ?_ (by first | exact Nat.le_refl _ | (simp only [World.size_alloc, World.size_setCell, World.size_drew]; omega) | omega) _ | refine Below.setCell ?_ (by first | exact Nat.le_refl _ | (simp only [World.size_alloc, World.size_setCell, World.size_drew]; omega) | omega) _ | refine Below.drew ?_)), by simp, by simp⟩
        case round =>
          obtain ⟨q, hq, rfl, HC, hb, hcell, hsz⟩ := hrel
          have hbs := hb.size
          by_cases hlt : q < xss.length
          · have HCL := Lib.hid (maColumn_any a xss cap q wr (HX.out.below hb) (by omega) (fun k hk => by rw [HL.out k hk]; exact hlt))
            by_cases hm : mostTo (colL xss q) (colL xss q).length = 0
            · have H : Hid (mxB xss = false) := by
                rw [Hid, ← Bool.not_eq_true]
                intro h
                have := colG_of h hlt
                rw [colL_len] at hm
                exact this hm
              have HM := Lib.hid hm
              clear hm
              go_wp2_with fail
              refine HCL.out.mono ?_
              rintro e w2 ⟨a2, c2, rfl, hown, hb2⟩
              have HCC := Lib.hid (ivMost_any a2 (colL xss q) c2 w2 hown.rd)
              rw [HM.out, colL_len] at HCC
              go_wp2_with fail
              refine HCC.out.mono ?_
              rintro e w' ⟨rfl, rfl⟩
              go_wp2_with fail
              go_ret
              exact ⟨ret_bool H.out.symm, hb.trans (hb2.mono hbs)⟩
            · have HM : Hid (colG xss q) := by rw [Hid, colG]; rw [colL_len] at hm; exact hm
              obtain ⟨M, hM⟩ : ∃ M, M = mostTo (colL xss q) (colL xss q).length := ⟨_, rfl⟩
              have HMM := Lib.hid hM
              rw [← hM] at hm
              have hmm : (M == 0) = false := by simp [hm]
              clear hM hm
              go_wp2_with fail
              refine HCL.out.mono ?_
              rintro e w2 ⟨a2, c2, rfl, hown, hb2⟩
              have HCC := Lib.hid (ivMost_any a2 (colL xss q) c2 w2 hown.rd)
              rw [← HMM.out, colL_len] at HCC
              have hcell2 := (hb2.cell (p := ⟨w.heap.size, 0, none⟩) hsz).trans hcell
              have hs2 := hb2.size
              go_wp2_with fail
              refine HCC.out.mono ?_
              rintro e w' ⟨rfl, rfl⟩
              go_wp2_with fail
              go_roundw
              case rel =>
                refine ⟨q + 1, by omega, by go_num, fun j hj => ?_, hb.trans (hb2.mono hbs), hcell2, by omega⟩
                by_cases e : j = q
                · rw [e]; exact HM.out
                · exact HC.out j (by omega)
              case measure => simp [intOf]; omega
          · obtain rfl : q = xss.length := by omega
            have HS := Lib.hid (maSum_any a xss cap wr (HX.out.below hb) (by omega) HL.out HV.out)
            have H : Hid (decide (matS xss xss.length ≤ 12) = mxB xss) := (mx_of HR.out HC.out).symm
            have hge : -9223372036854775808 ≤ matS xss xss.length ∧ matS xss xss.length ≤ 9223372036854775807 ∨ True := .inr trivial
            go_wp2_with fail
            refine HS.out.mono ?_
            rintro e w2 ⟨rfl, hb2⟩
            go_wp2_with fail
            go_ret
            exact ⟨ret_bool H.out, hb.trans (hb2.mono hbs)⟩

set_option maxRecDepth 100000 in
set_option maxHeartbeats 1000000 in
theorem sDual_any (a : Option Addr) (xss : List (List Int)) (cap : Nat) (w : World) (hx : RdC w a xss) (hs : xss.length + totS xss xss.length ≤ 1048576) :
    Calls Try.prog 68 #[.agg #[.slice a xss.length cap]] w fun e w' => ∃ a0 c0 vl, e = .returned (.tuple #[.agg #[.slice a0 (duL xss).length c0], .bool (mxB xss)]) ∧ RowsP w' w.heap.size (.slice a0 (duL xss).length c0) vl (duL xss) ∧ Below w.heap.size w w' := by
  have hlen := hx.rd.len
  have hV := Var1.new (w.alloc (.cells #[.slice a xss.length cap] 40)) (.slice none 0 0) 40
  have hb0 : Below w.heap.size w ((w.alloc (.cells #[.slice a xss.length cap] 40)).alloc (.cells #[.slice none 0 0] 40)) := (by repeat (first | exact Below.refl _ _ | assumption | refine Below.alloc ?_ (by first | exact Nat.le_refl _ | (simp only [World.size_alloc, World.size_setCell, World.size_drew]; omega) | omega) _ | refine Below.setCell ?_ (by first | exact Nat.le_refl _ | (simp only [World.size_alloc, World.size_setCell, World.size_drew]; omega) | omega) _ | refine Below.drew ?_))
  rw [World.size_alloc] at hV
  cases hm : mxB xss
  · have HM := Lib.hid hm
    have H1 : Hid (duL xss = []) := by simp [Hid, duL, hm]
    clear hm
    go_enter Try.func68, Try.ntmps68
    go_wp2_with fail
    refine (maGood_any _ _ _ _ (hx.rd.below hb0)).mono ?_
    rintro e w1 ⟨rfl, hb⟩
    rw [HM.out]
    have b1 : Below w.heap.size w w1 := hb0.trans (hb.mono (by simp; omega))
    have hV1 := hV.below hb
    have ⟨⟨zV, cV⟩, fV⟩ := hV1
    clear hb hV
    go_wp2_with fail
    have hV2 := hV1.set (.slice none 0 0)
    have b2 := b1.setCell (p := ⟨w.heap.size + 1, 0, none⟩) (by simp) (.slice none 0 0)
    refine bodyPost_ret (v := .tuple #[.agg #[.slice none 0 0], .bool false]) (by have ⟨⟨_, q1⟩, _⟩ := hV2; simp [results, Try.results68, go_sem, q1]) rfl ?_
    exact ⟨none, 0, [], by rw [H1.out]; rfl, by rw [H1.out]; exact RowsP.nil _ _, b2⟩
  · have HM := Lib.hid hm
    have h12 := mxB_small hm
    have HL : Hid (∀ k, k < xss.length → (rowL xss k).length = xss.length) := fun k hk => mxB_len hm hk
    obtain ⟨F, hF⟩ : ∃ F : Nat → Nat → Int, F = fun i j => atM xss (xss.length - 1 - j) (xss.length - 1 - i) := ⟨_, rfl⟩
    have HF : Hid (∀ i j, nth (rowL xss (xss.length - 1 - j)) (xss.length - 1 - i) = F i j) := fun i j => by rw [hF]; rfl
    have H1 : Hid (duL xss = sqM F xss.length xss.length) := by rw [Hid, duL, if_pos hm, hF]
    have HX := Lib.hid hx
    clear hm hF hx
    go_enter Try.func68, Try.ntmps68
    go_wp2_with fail
    refine (maGood_any _ _ _ _ (HX.out.rd.below hb0)).mono ?_
    rintro e w1 ⟨rfl, hb⟩
    rw [HM.out]
    have b1 : Below w.heap.size w w1 := hb0.trans (hb.mono (by simp; omega))
    have hV1 := hV.below hb
    have hc1 := (hb.cell (p := ⟨w.heap.size, 0, none⟩) (by simp; omega)).trans (show _ = some (Value.slice a xss.length cap) by simp)
    have hz1 : w.heap.size + 2 ≤ w1.heap.size := by have := hb.size; simp at this; omega
    have hO1 := Var1.new w1 (.slice none 0 0) 40
    have bb1 : Below w1.heap.size w1 (w1.alloc (.cells #[.slice none 0 0] 40)) := (by repeat (first | exact Below.refl _ _ | assumption | refine Below.alloc ?_ (by first | exact Nat.le_refl _ | (simp only [World.size_alloc, World.size_setCell, World.size_drew]; omega) | omega) _ | refine Below.setCell ?_ (by first | exact Nat.le_refl _ | (simp only [World.size_alloc, World.size_setCell, World.size_drew]; omega) | omega) _ | refine Below.drew ?_))
    have HV1 := Lib.hid (hV1.below bb1)
    have HO1 := Lib.hid hO1
    have hc2 := (bb1.cell (p := ⟨w.heap.size, 0, none⟩) (show w.heap.size < w1.heap.size by omega)).trans hc1
    have HB1 := Lib.hid (b1.trans (bb1.mono b1.size))
    clear hb hV hb0 hV1 hO1 b1 bb1
    obtain ⟨b4, hb4⟩ : ∃ b4, b4 = w1.heap.size := ⟨_, rfl⟩
    have HB4 := Lib.hid hb4
    have hz4 : w.heap.size + 2 ≤ b4 := by omega
    rw [← hb4] at HO1
    clear hb4
    go_wp2_with fail
    go_loopw [6] (fun i wr => ∃ (k : Nat) (v : Value) (vl : List Value), k ≤ xss.length ∧ i = .int .i64 k ∧ Var1 wr b4 v ∧ RowsP wr (b4 + 1) v vl (sqM F k xss.length) ∧ Box1 wr w.heap.size (.slice a xss.length cap) ∧ Var1 wr (w.heap.size + 1) (.slice none 0 0) ∧ Below w.heap.size w wr) (fun i _ => xss.length - (intOf i).toNat)
    case atStart => exact ⟨0, .slice none 0 0, [], Nat.zero_le _, rfl, HO1.out, RowsP.nil _ _, ⟨by simp; omega, hc2⟩, HV1.out, HB1.out⟩
    case round =>
      rw [← HB4.out]
      obtain ⟨k, v, vl, hk, rfl, hO, hro, hA, hV, hb⟩ := hrel
      have hbs := hb.size
      have hO9 := hO.1.1
      have HRO := Lib.hid hro
      obtain ⟨av, cv, ev⟩ := hro.o.form
      rw [sqM_len] at ev
      subst ev
      have HO := Lib.hid hO
      have HV := Lib.hid hV
      by_cases hlt : k < xss.length
      · have k1 : (k : Int) < (xss.length : Int) := by omega
        have HN : Hid (sqM F (k+1) xss.length = sqM F k xss.length ++ [fmap (F k) xss.length]) := sqM_succ _ _ _
        have h63 : (sqM F k xss.length).length ≤ 1048576 := by rw [sqM_len]; omega
        obtain ⟨W1, hW1⟩ : ∃ x : World, x = wr := ⟨_, rfl⟩
        subst hW1
        have HA : Hid (∀ W, Below W1.heap.size W1 W → W.cell? ⟨w.heap.size, 0, none⟩ = some (.slice a xss.length cap)) := fun W h => (hA.below h).2
        clear hro hO hV
        go_wp2_with fail
        go_loopw [7, 8] (fun u i wq => ∃ q : Nat, q ≤ xss.length ∧ i = .int .i64 q ∧ OwnI wq W1.heap.size u (fmap (F k) q) ∧ Below W1.heap.size W1 wq) (fun _ i _ => xss.length - (intOf i).toNat)
        case atStart => exact ⟨0, Nat.zero_le _, rfl, OwnI.nil _ _, Below.refl _ _⟩
        case round =>
          obtain ⟨q, hq, rfl, hu, hbq⟩ := hrel
          have hbqs := hbq.size
          by_cases hlt2 : q < xss.length
          · have q1 : (q : Int) < (xss.length : Int) := by omega
            obtain ⟨b0, off0, a', cap', rfl, hbl, hc, hr⟩ := (HX.out.rd.below (hb.trans (hbq.mono hbs))).row (xss.length - 1 - q) (by omega)
            have hrl := HL.out (xss.length - 1 - q) (by omega)
            rw [hrl] at hc
            obtain ⟨b2, off2, rfl, hbl2, hc2⟩ := hr.cell (xss.length - 1 - k) (by rw [hrl]; omega)
            rw [HF.out k q] at hc2
            have hq1 : ((xss.length : Int) - 1 - (q : Int)) = ((xss.length - 1 - q : Nat) : Int) := by omega
            have hk1 : ((xss.length : Int) - 1 - (k : Int)) = ((xss.length - 1 - k : Nat) : Int) := by omega
            have q2 : xss.length - 1 - q < xss.length := by omega
            have k2 : xss.length - 1 - k < xss.length := by omega
            have hcA := (HA.out wr hbq)
            clear hr hrl
            have HNF : Hid (fmap (F k) (q+1) = fmap (F k) q ++ [F k q]) := fmap_succ _ _
            have hfl : (fmap (F k) q).length ≤ 1048576 := by rw [fmap_len]; omega
            have HU := Lib.hid hu
            clear hu
            go_wp2_with (at_builtin; refine push_at rfl _ _ rfl (z := F k q) rfl HU.out rfl hfl (by omega) ?_)
            intro v3 w3 o3 hg3 hat3
            have hUl := HU.out.lt
            have b3 := hbq.trans (below_of_grown hg3 (fun c e => by have := (hUl c e).1; omega) hbqs)
            clear hg3 hat3 hUl
            go_wp2_with fail
            go_roundw
            case rel => exact ⟨q + 1, by omega, by go_num, by rw [HNF.out]; exact o3, b3⟩
            case measure => simp [intOf]; omega
          · obtain rfl : q = xss.length := by omega
            obtain ⟨au, cu, eu⟩ := hu.form
            rw [fmap_len] at eu
            subst eu
            have HU := Lib.hid hu
            have hO2 := HO.out.below hbq
            have HRO2 := Lib.hid (HRO.out.below hbq (Nat.le_refl _))
            have ⟨⟨zO, cO⟩, fO⟩ := hO2
            have HO2 := Lib.hid hO2
            clear hu hO2
            go_wp2_with (at_builtin; refine push_row (v := .slice av k cv) (C := W1.heap.size) rfl _ _ rfl rfl HRO2.out HU.out rfl h63 (by omega) hbqs (fun c e => (HRO.out.blk.1 c e)) (fun i hi c e => HRO.out.blk.2 i hi c e) ?_)
            intro v5 w5 ho5 hg5
            have hlo := HRO2.out.o.lt
            have hO5 := HO2.out.kept hg5 (ne_own (fun c e => by have := (hlo c e).1; omega))
            have hA5 := (hA.below hbq).kept hg5 (ne_own (fun c e => by have := (hlo c e).1; omega))
            have hV5 := (HV.out.below hbq).kept hg5 (ne_own (fun c e => by have := (hlo c e).1; omega))
            have b5 : Below w.heap.size w w5 := (hb.trans (hbq.mono hbs)).trans (below_of_grown hg5 (fun c e => by have := (hlo c e).1; omega) (by omega))
            obtain ⟨a5, c5, e5⟩ := ho5.o.form
            subst e5
            have ⟨⟨zO5, cO5⟩, fO5⟩ := hO5
            have ho6 := ho5.setBelow (p := ⟨b4, 0, none⟩) (show b4 < b4 + 1 by omega) (.slice a5 (sqM F k xss.length ++ [fmap (F k) xss.length]).length c5)
            have hO6 := hO5.set (.slice a5 (sqM F k xss.length ++ [fmap (F k) xss.length]).length c5)
            have hA6 : Box1 (w5.setCell ⟨b4, 0, none⟩ (.slice a5 (sqM F k xss.length ++ [fmap (F k) xss.length]).length c5)) w.heap.size (.slice a xss.length cap) := hA5.kept (grown_set _ _ _) (by simp; omega)
            have hV6 := hV5.other (p := ⟨b4, 0, none⟩) (.slice a5 (sqM F k xss.length ++ [fmap (F k) xss.length]).length c5) (show w.heap.size + 1 ≠ b4 by omega)
            have b6 := b5.setCell (p := ⟨b4, 0, none⟩) (show w.heap.size ≤ b4 by omega) (.slice a5 (sqM F k xss.length ++ [fmap (F k) xss.length]).length c5)
            have H6 := Lib.hid (And.intro ho6 (And.intro hO6 (And.intro hA6 (And.intro hV6 b6))))
            obtain ⟨L5, hL5⟩ : ∃ L5, L5 = (sqM F k xss.length ++ [fmap (F k) xss.length]).length := ⟨_, rfl⟩
            rw [← hL5] at H6 ⊢
            clear ho5 hg5 hlo hO5 hV5 hA5 ho6 hO6 hA6 hV6 hL5
            go_wp2_with fail
            go_roundw
            case rel => exact ⟨k + 1, _, _, by omega, by go_num, H6.out.2.1, by rw [HN.out]; exact H6.out.1, H6.out.2.2.1, H6.out.2.2.2.1, H6.out.2.2.2.2⟩
            case measure => simp [intOf]; omega
      · obtain rfl : k = xss.length := by omega
        have ⟨⟨zO, cO⟩, fO⟩ := hO
        have ⟨⟨zV, cV⟩, fV⟩ := hV
        clear hro hO hV
        go_wp2_with fail
        have hV2 := HV.out.set (.slice av xss.length cv)
        have b2 := hb.setCell (p := ⟨w.heap.size + 1, 0, none⟩) (by simp) (.slice av xss.length cv)
        refine bodyPost_ret (v := .tuple #[.agg #[.slice av xss.length cv], .bool true]) (by have ⟨⟨_, q1⟩, _⟩ := hV2; simp [results, Try.results68, go_sem, q1]) rfl ?_
        exact ⟨av, cv, vl, by rw [H1.out, sqM_len], by rw [H1.out, sqM_len]; exact (HRO.out.setBelow (show w.heap.size + 1 < b4 + 1 by omega) _).mono (by omega), b2⟩

theorem SumP.vn {w : World} {B n c : Nat} {a : Option Addr} {vl : List Value} {xss : List (List Int)} (h : SumP w B (.slice a n c) vl xss) : n = xss.length := by
  obtain ⟨a2, c2, e⟩ := h.form
  simp only [Value.slice.injEq] at e
  exact e.2.1

set_option maxRecDepth 100000 in
theorem sumsOf_any (s : Int) (va : Option Addr) (vc B : Nat) (vl : List Value) (xss : List (List Int)) (w : World) (hp : SumP w B (.slice va xss.length vc) vl xss) (h63 : xss.length ≤ 1048576) :
    Calls Try.prog 146 #[.agg #[.int .i64 s, .slice va xss.length vc]] w fun e w' => ∃ g, e = .returned (.slice (some ⟨g, 0, none⟩) xss.length xss.length) ∧ OwnI w' w.heap.size (.slice (some ⟨g, 0, none⟩) xss.length xss.length) (fmap (fun k => totR (rowL xss k)) xss.length) ∧ Below w.heap.size w w' := by
  obtain ⟨i0, hi, hz0, hz1, hz2⟩ := info_parts infoInt
  have HP := Lib.hid hp
  clear hp
  obtain ⟨N, hN⟩ : ∃ N, N = xss.length := ⟨_, rfl⟩
  have HN := Lib.hid hN
  rw [← hN] at h63 ⊢
  have HP2 : Hid (SumP w B (.slice va N vc) vl xss) := by rw [hN]; exact HP.out
  obtain ⟨F, hF⟩ : ∃ F, F = fun k => totR (rowL xss k) := ⟨_, rfl⟩
  have HF : Hid (∀ k, totR (rowL xss k) = F k) := fun k => by rw [hF]
  rw [← hF]
  clear hN hF HP
  go_enter Try.func146, Try.ntmps146
  go_wp2_with (
    at_make
    refine wpList_make_full _ rfl (.tmp 8) (.tmp 8) 24 rfl (w.heap.size + 1) 3 i0 (.int .i64 0) 1 Try.underlying24 hi hz0 hz1 .i64 .i64 _ _ N rfl rfl rfl rfl (by rw [hz2]; omega) (by unfold maxLen; omega) (by simp) ?_
    intro w1 hown hgrow
    have bw1 : Below w.heap.size w w1 := Below.trans (B := w.heap.size) ((Below.refl _ _).alloc (Nat.le_refl _) _) (below_grown_none hgrow (by simp))
    have hc1 : w1.cell? ⟨w.heap.size, 1, none⟩ = some (.slice va N vc) := hgrow.cell (by simp) (by simp)
    have hz1' : w.heap.size + 1 < w1.heap.size := by
      have := (World.ownsRow.lt hown (w.heap.size + 1) (by simp [Value.ownBlock])).2
      omega
    have HO0 := Lib.hid (made_ints F hown))
  go_loopw [13] (fun i wr => ∃ k : Nat, k ≤ N ∧ i = .int .i64 k ∧ wr.ownsRow (w.heap.size + 1) 3 1 (.slice (some ⟨w.heap.size + 1, 0, none⟩) N N) N ((fmap F k ++ List.replicate (N - k) (0:Int)).map (Value.int .i64)) ∧ Below w.heap.size w wr ∧ w.heap.size + 1 < wr.heap.size) (fun i _ => N - (intOf i).toNat)
  case atStart => exact ⟨0, Nat.zero_le _, rfl, by simpa using HO0.out, bw1, hz1'⟩
  case round =>
    obtain ⟨k, hk, rfl, hown2, hb, hgz⟩ := hrel
    have hbs := hb.size
    by_cases hlt : k < N
    · have k1 : (k : Int) < (N : Int) := by omega
      have hpr := HP2.out.below hb (Nat.le_refl _)
      obtain ⟨g0, rfl, hg0, hcA, hcB⟩ := hpr.at (k := k) (by rw [← HN.out]; exact hlt)
      obtain ⟨ar, cr, er⟩ := (hpr.row k (by rw [← HN.out]; exact hlt)).form
      rw [er] at hcB
      rw [HF.out k] at hcA
      have hst := (World.ownsRow.stored hown2 k (.int .i64 (F k))).1
      rw [fill_step F N k hlt] at hst
      have hst := ownsRow_bel hst (w' := (wr.setCell ⟨w.heap.size + 1, k, none⟩ (.int .i64 (F k))).alloc (.cells #[.int .i64 (F k), .slice ar (rowL xss k).length cr] 190)) ((Below.refl _ _).alloc (Nat.le_refl _) _) (Nat.le_refl _)
      have hcc := World.ownsRow.cellAt hown2 k (by omega)
      have hfr := World.ownsRow.frozenAt hown2 k
      have hcc' : ∃ u, wr.cell? ⟨w.heap.size + 1, k, none⟩ = some u := by
        rw [hcc]
        exact ⟨_, List.getElem?_eq_getElem (by simp [fmap_len]; omega)⟩
      obtain ⟨u, hu⟩ := hcc'
      have Hst := Lib.hid hst
      have b3 : Below w.heap.size w ((wr.setCell ⟨w.heap.size + 1, k, none⟩ (.int .i64 (F k))).alloc (.cells #[.int .i64 (F k), .slice ar (rowL xss k).length cr] 190)) := (hb.setCell (by simp) _).alloc (by simpa using hbs) _
      clear hst hcc hown2 hpr er
      go_wp2_with fail
      go_roundw
      case rel => exact ⟨k + 1, by omega, by go_num, Hst.out, b3, by simp; omega⟩
      case measure => simp [intOf]; omega
    · obtain rfl : k = N := by omega
      rw [fill_end] at hown2
      have HO := Lib.hid hown2
      clear hown2
      go_wp2_with fail
      go_ret
      refine ⟨w.heap.size + 1, rfl, ?_, hb⟩
      have h : OwnI wr (w.heap.size + 1) (.slice (some ⟨w.heap.size + 1, 0, none⟩) k k) (fmap F k) := by
        unfold OwnI
        rw [fmap_len]
        exact HO.out
      exact h.mono (by omega)

theorem fmap_cols {xss : List (List Int)} : fmap (fun k => totR (rowL (colsL xss) k)) xss.length = fmap (fun k => totR (colL xss k)) xss.length :=
  fmap_ext (fun k hk => by rw [colsL_row hk])
set_option maxRecDepth 100000 in
set_option maxHeartbeats 1000000 in
theorem iRowSums_any (a : Option Addr) (xss : List (List Int)) (cap : Nat) (w : World) (hx : RdC w a xss) (hs : xss.length + totS xss xss.length ≤ 1048576) :
    Calls Try.prog 70 #[.agg #[.slice a xss.length cap]] w fun e w' => ∃ a0 c0 a1 c1, e = .returned (.tuple #[.slice a0 (rsL xss).length c0, .slice a1 (csL xss).length c1, .bool (mxB xss)]) ∧ OwnI w' w.heap.size (.slice a0 (rsL xss).length c0) (rsL xss) ∧ OwnI w' w.heap.size (.slice a1 (csL xss).length c1) (csL xss) ∧ SepV (.slice a0 (rsL xss).length c0) (.slice a1 (csL xss).length c1) ∧ Below w.heap.size w w' := by
  have hlen := hx.rd.len
  have HCL := Lib.hid (fun W (h : RdC W a xss) => rowsOf_any a xss cap W h hs)
  cases hm : mxB xss
  · have HM := Lib.hid hm
    have H1 : Hid (rsL xss = []) := by simp [Hid, rsL, hm]
    have H2 : Hid (csL xss = []) := by simp [Hid, csL, hm]
    clear hm
    go_enter Try.func70, Try.ntmps70
    go_wp2_with fail
    refine (HCL.out _ (hx.below (by repeat (first | exact Below.refl _ _ | assumption | refine Below.alloc ?_ (by first | exact Nat.le_refl _ | (simp only [World.size_alloc, World.size_setCell, World.size_drew]; omega) | omega) _ | refine Below.setCell ?_ (by first | exact Nat.le_refl _ | (simp only [World.size_alloc, World.size_setCell, World.size_drew]; omega) | omega) _ | refine Below.drew ?_)))).mono ?_
    rintro e w1 ⟨s, va, vn, vc, rfl, _, hb⟩
    rw [HM.out]
    have b1 : Below w.heap.size w w1 := Below.trans (by repeat (first | exact Below.refl _ _ | assumption | refine Below.alloc ?_ (by first | exact Nat.le_refl _ | (simp only [World.size_alloc, World.size_setCell, World.size_drew]; omega) | omega) _ | refine Below.setCell ?_ (by first | exact Nat.le_refl _ | (simp only [World.size_alloc, World.size_setCell, World.size_drew]; omega) | omega) _ | refine Below.drew ?_)) (hb.mono (by first | (simp only [World.size_alloc, World.size_setCell, World.size_drew]; omega) | omega))
    clear hb
    go_wp2_with fail
    refine bodyPost_ret (v := .tuple #[.slice none 0 0, .slice none 0 0, .bool false]) (by simp [results, Try.results70, go_sem]) rfl ?_
    exact ⟨none, 0, none, 0, by rw [H1.out, H2.out]; rfl, by rw [H1.out]; exact OwnI.nil _ _, by rw [H2.out]; exact OwnI.nil _ _, (fun c e => by cases e), b1.alloc b1.size _⟩
  · have HM := Lib.hid hm
    have h12 := mxB_small hm
    have HCO : Hid (adB (colsL xss) = true) := (mxB_iff.1 hm).2.2
    have HLL : Hid (∀ k, k < xss.length → (rowL xss k).length = xss.length) := fun k hk => mxB_len hm hk
    have H1 : Hid (rsL xss = fmap (fun k => totR (rowL xss k)) xss.length) := by rw [Hid, rsL, if_pos hm]
    have H2 : Hid (csL xss = fmap (fun k => totR (colL xss k)) xss.length) := by rw [Hid, csL, if_pos hm]
    have HX := Lib.hid hx
    clear hm hx
    go_enter Try.func70, Try.ntmps70
    go_wp2_with fail
    refine (HCL.out _ (HX.out.below (by repeat (first | exact Below.refl _ _ | assumption | refine Below.alloc ?_ (by first | exact Nat.le_refl _ | (simp only [World.size_alloc, World.size_setCell, World.size_drew]; omega) | omega) _ | refine Below.setCell ?_ (by first | exact Nat.le_refl _ | (simp only [World.size_alloc, World.size_setCell, World.size_drew]; omega) | omega) _ | refine Below.drew ?_)))).mono ?_
    rintro e w1 ⟨s, va, vn, vc, rfl, hok, hb⟩
    rw [HM.out]
    obtain ⟨vl, hp⟩ := (hok HM.out).2
    obtain rfl := hp.vn
    have b1 : Below w.heap.size w w1 := Below.trans (by repeat (first | exact Below.refl _ _ | assumption | refine Below.alloc ?_ (by first | exact Nat.le_refl _ | (simp only [World.size_alloc, World.size_setCell, World.size_drew]; omega) | omega) _ | refine Below.setCell ?_ (by first | exact Nat.le_refl _ | (simp only [World.size_alloc, World.size_setCell, World.size_drew]; omega) | omega) _ | refine Below.drew ?_)) (hb.mono (by first | (simp only [World.size_alloc, World.size_setCell, World.size_drew]; omega) | omega))
    have hc1 := (hb.cell (p := ⟨w.heap.size, 0, none⟩) (by simp)).trans (show _ = some (Value.slice a xss.length cap) by simp)
    have hz1 : w.heap.size + 1 ≤ w1.heap.size := by have := hb.size; simp at this; omega
    have HP := Lib.hid hp
    clear hb hok hp
    have hA2 := Box2.new w1 (.int .i64 s) (.slice va xss.length vc) 109
    have bb2 : Below w1.heap.size w1 (w1.alloc (.cells #[.int .i64 s, .slice va xss.length vc] 109)) := (by repeat (first | exact Below.refl _ _ | assumption | refine Below.alloc ?_ (by first | exact Nat.le_refl _ | (simp only [World.size_alloc, World.size_setCell, World.size_drew]; omega) | omega) _ | refine Below.setCell ?_ (by first | exact Nat.le_refl _ | (simp only [World.size_alloc, World.size_setCell, World.size_drew]; omega) | omega) _ | refine Below.drew ?_))
    have c2 := (bb2.cell (p := ⟨w.heap.size, 0, none⟩) (show w.heap.size < w1.heap.size by omega)).trans hc1
    have b2 := b1.trans (bb2.mono b1.size)
    go_wp2_with fail
    refine (columnsOf_any a xss cap _ (HX.out.below b2).rd h12 HLL.out).mono ?_
    rintro e w4 ⟨g, vlc, rfl, hro, hb4⟩
    have hA4 := hA2.below hb4
    have b4 := b2.trans (hb4.mono b2.size)
    have bb4 : Below w1.heap.size w1 w4 := bb2.trans (hb4.mono (by simp))
    have hAU := iAddUp_any (some ⟨g, 0, none⟩) (colsL xss) xss.length w4 hro.o.rd (by rw [colsL_sq]; exact sq_small (by omega))
    rw [colsL_len, HCO.out] at hAU
    have HAU := Lib.hid hAU
    have hs4 : w1.heap.size + 1 ≤ w4.heap.size := by have := hb4.size; simp at this; omega
    clear hb4 hro hAU
    go_wp2_with fail
    refine HAU.out.mono ?_
    rintro e w5 ⟨s5, va5, vn5, vc5, rfl, hok5, hb5⟩
    obtain ⟨vl5, hp5⟩ := (hok5 (by first | rfl | trivial)).2
    have hvn5 := hp5.vn
    rw [colsL_len] at hvn5
    subst hvn5
    have hA5 := hA4.below hb5
    have b5 := b4.trans (hb5.mono b4.size)
    have bb5 : Below w1.heap.size w1 w5 := bb4.trans (hb5.mono (by omega))
    have HP5 := Lib.hid (HP.out.below bb5 (Nat.le_refl _))
    have HQ5 := Lib.hid hp5
    have hs5 : w4.heap.size ≤ w5.heap.size := hb5.size
    clear hb5 hok5 hp5 HP
    obtain ⟨W6, hW6⟩ : ∃ x : World, x = w5.alloc (.cells #[.int .i64 s5, .slice va5 xss.length vc5] 109) := ⟨_, rfl⟩
    have HW6 := Lib.hid hW6
    have bb6 : Below w5.heap.size w5 W6 := by rw [hW6]; exact (by repeat (first | exact Below.refl _ _ | assumption | refine Below.alloc ?_ (by first | exact Nat.le_refl _ | (simp only [World.size_alloc, World.size_setCell, World.size_drew]; omega) | omega) _ | refine Below.setCell ?_ (by first | exact Nat.le_refl _ | (simp only [World.size_alloc, World.size_setCell, World.size_drew]; omega) | omega) _ | refine Below.drew ?_))
    have hB6 : Box2 W6 w5.heap.size (.int .i64 s5) (.slice va5 xss.length vc5) := by rw [hW6]; exact Box2.new _ _ _ _
    have hA6 := hA5.below bb6
    have b6 := b5.trans (bb6.mono b5.size)
    have HP6 := Lib.hid (HP5.out.below bb6 (Nat.le_refl _))
    have HQ6 := Lib.hid (HQ5.out.below bb6 (Nat.le_refl _))
    have HC1 : Hid (∀ W, Below W6.heap.size W6 W → Calls Try.prog 146 #[.agg #[.int .i64 s, .slice va xss.length vc]] W fun e w' => ∃ g, e = .returned (.slice (some ⟨g, 0, none⟩) xss.length xss.length) ∧ OwnI w' W.heap.size (.slice (some ⟨g, 0, none⟩) xss.length xss.length) (fmap (fun k => totR (rowL xss k)) xss.length) ∧ Below W.heap.size W w') := fun W hb => sumsOf_any s va vc _ vl xss W (HP6.out.below hb (Nat.le_refl _)) (by omega)
    have HC2 : Hid (∀ W, Below W6.heap.size W6 W → Calls Try.prog 146 #[.agg #[.int .i64 s5, .slice va5 xss.length vc5]] W fun e w' => ∃ g, e = .returned (.slice (some ⟨g, 0, none⟩) xss.length xss.length) ∧ OwnI w' W.heap.size (.slice (some ⟨g, 0, none⟩) xss.length xss.length) (fmap (fun k => totR (colL xss k)) xss.length) ∧ Below W.heap.size W w') := fun W hb => by
      have h := sumsOf_any s5 va5 vc5 _ vl5 (colsL xss) W (by rw [colsL_len]; exact HQ6.out.below hb (Nat.le_refl _)) (by rw [colsL_len]; omega)
      rw [colsL_len, fmap_cols] at h
      exact h
    subst hW6
    clear HAU HCL bb6 HP5 HQ5 HP6 HQ6
    go_wp2_with fail
    have ⟨zA6, cA6, dA6⟩ := hA6
    have ⟨zB6, cB6, dB6⟩ := hB6
    go_region_held3 (fun w' => w'.cell? ⟨w1.heap.size, 0, none⟩ = some (.int .i64 s) ∧ w'.cell? ⟨w1.heap.size, 1, none⟩ = some (.slice va xss.length vc) ∧ w'.cell? ⟨w5.heap.size, 0, none⟩ = some (.int .i64 s5) ∧ w'.cell? ⟨w5.heap.size, 1, none⟩ = some (.slice va5 xss.length vc5))
      (first | exact ⟨Pb.2.1, Pb.2.2, Qb.2.1, Qb.2.2⟩ | exact ⟨Pa.2.1, Pa.2.2, Qa.2.1, Qa.2.2⟩ | go_keep)
      (first | (have _g := hta; go_at_call 146; refine (HC2.out _ (by first | exact hta | exact hta.trans ((Joins.below_draws _ _ _).mono hta.size) | exact hta.drew)).mono ?_; rintro e wb ⟨g2, rfl, o2, hbb⟩; have htb := hta.trans (hbb.mono hta.size); have Pb := hA6.below htb; have Qb := hB6.below htb) | (go_at_call 146; refine (HC1.out _ (Joins.below_draws _ _ _)).mono ?_; rintro e wa ⟨g1, rfl, o1, hba⟩; have hta := (Joins.below_draws _ _ _).trans hba; have Pa := hA6.below hta; have Qa := hB6.below hta))
    all_goals
      go_wp2_with fail
      refine bodyPost_ret (v := .tuple #[.slice (some ⟨g1, 0, none⟩) xss.length xss.length, .slice (some ⟨g2, 0, none⟩) xss.length xss.length, .bool true]) (by simp [results, Try.results70, go_sem]) rfl ?_
      have hl1 := o1.lt g1 rfl
      have hl2 := o2.lt g2 rfl
      have hn : SepV (.slice (some ⟨g1, 0, none⟩) xss.length xss.length) (.slice (some ⟨g2, 0, none⟩) xss.length xss.length) := by
        intro c e1 e2
        simp only [Value.ownBlock, Option.some.injEq] at e1 e2
        omega
      have h5 : w.heap.size ≤ w5.heap.size := b5.size
      have h6 : w.heap.size ≤ wa.heap.size := by have := hta.size; simp at this; omega
      have o1b := o1.below hbb (Nat.le_refl _)
      refine ⟨_, _, _, _, by rw [H1.out, H2.out, fmap_len, fmap_len], by rw [H1.out, fmap_len]; exact o1b.mono (by first | omega | (simp; omega)), by rw [H2.out, fmap_len]; exact o2.mono (by omega), by rw [H1.out, H2.out, fmap_len, fmap_len]; exact hn, b6.trans (htb.mono b6.size)⟩

theorem iMirrorOf_any (n : Int) (a : Option Addr) (xs : List Int) (cap : Nat) (w : World) (hn : -9223372036854775808 ≤ n ∧ n ≤ 9223372036854775807) (hx : Rd w a xs) :
    Calls Try.prog 69 #[.agg #[.int .i64 n, .slice a xs.length cap]] w (GotO w (mirN n xs) (mirL n xs) (relB n xs)) := by
  have hx1 := (hx.alloc (.cells #[.int .i64 n, .slice a xs.length cap] 45)).alloc (.cells #[.int .i64 0, .slice none 0 0] 45)
  cases hr : relB n xs
  · have H1 : Hid (mirN n xs = 0) := by simp [Hid, mirN, hr]
    have H2 : Hid (mirL n xs = []) := by simp [Hid, mirL, hr]
    go_enter Try.func69, Try.ntmps69
    go_wp2_with fail
    refine (iIsRelation_any _ _ _ _ _ hn hx1).mono ?_
    rintro e w1 ⟨rfl, hb1⟩
    have hz := hb1.size
    simp only [World.size_alloc] at hz
    obtain ⟨hc, hf⟩ := bcell hb1
    have bw1 : Below w.heap.size w w1 := Below.trans (by repeat (first | exact Below.refl _ _ | assumption | refine Below.alloc ?_ (by first | exact Nat.le_refl _ | (simp only [World.size_alloc, World.size_setCell, World.size_drew]; omega) | omega) _ | refine Below.setCell ?_ (by first | exact Nat.le_refl _ | (simp only [World.size_alloc, World.size_setCell, World.size_drew]; omega) | omega) _ | refine Below.drew ?_)) (hb1.mono (by first | (simp only [World.size_alloc, World.size_setCell, World.size_drew]; omega) | omega))
    go_wp2_with fail
    refine bodyPost_ret (v := .tuple #[.agg #[.int .i64 0, .slice none 0 0], .bool false]) (by simp [results, Try.results69, go_sem, hc]) rfl ?_
    refine ⟨none, 0, ?_, ?_, ?_⟩
    · rw [H1.out, H2.out]; rfl
    · rw [H2.out]; exact OwnI.nil _ _
    · exact (bw1.setCell (by simp) _).setCell (by simp) _
  · have hp := relB_p hr
    have H1 : Hid (mirN n xs = n) := by simp [Hid, mirN, hr]
    have H2 : Hid (mirL n xs = belows xs xs.length) := by simp [Hid, mirL, hr]
    go_enter Try.func69, Try.ntmps69
    go_wp2_with fail
    refine (iIsRelation_any _ _ _ _ _ hn hx1).mono ?_
    rintro e w1 ⟨rfl, hb1⟩
    have A1 : Box2 w1 w.heap.size (.int .i64 n) (.slice a xs.length cap) := ((Box2.new w _ _ _).below ((Below.refl _ _).alloc (Nat.le_refl _) _)).below hb1
    have R1 : Var2 w1 (w.heap.size + 1) (.int .i64 0) (.slice none 0 0) := by
      have := (Var2.new (w.alloc (.cells #[.int .i64 n, .slice a xs.length cap] 45)) (.int .i64 0) (.slice none 0 0) 45).below hb1
      simpa using this
    have ⟨zA, cA, dA⟩ := A1
    have bw1 : Below w.heap.size w w1 := Below.trans (by repeat (first | exact Below.refl _ _ | assumption | refine Below.alloc ?_ (by first | exact Nat.le_refl _ | (simp only [World.size_alloc, World.size_setCell, World.size_drew]; omega) | omega) _ | refine Below.setCell ?_ (by first | exact Nat.le_refl _ | (simp only [World.size_alloc, World.size_setCell, World.size_drew]; omega) | omega) _ | refine Below.drew ?_)) (hb1.mono (by first | (simp only [World.size_alloc, World.size_setCell, World.size_drew]; omega) | omega))
    clear hb1
    go_wp2_with fail
    go_region_held3 (fun w' => w'.cell? ⟨w.heap.size, 0, none⟩ = some (.int .i64 n) ∧ w'.cell? ⟨w.heap.size, 1, none⟩ = some (.slice a xs.length cap))
      (first | exact ⟨A2.2.1, A2.2.2⟩ | go_keep)
      (first | (go_at_call 144; refine (belowSets_any _ _ _ _ _ (hx.below (bw1.trans (Joins.below_draws _ _ _))) hp).mono ?_; rintro e w2 ⟨a2, cap2, rfl, ho2, hb2⟩; have ht2 : Below w1.heap.size w1 w2 := (Joins.below_draws _ _ _).trans hb2; have A2 := A1.below ht2; have R2 := R1.below ht2; have ⟨⟨zR, cR, dR⟩, fR, gR⟩ := R2))
    go_wp2_with fail
    have R3 := R2.set (.int .i64 n) (.slice a2 xs.length cap2)
    refine bodyPost_ret (v := .tuple #[.agg #[.int .i64 n, .slice a2 xs.length cap2], .bool true]) (by have ⟨⟨_, q1, q2⟩, _, _⟩ := R3; simp [results, Try.results69, go_sem, q1, q2]) rfl ?_
    refine ⟨a2, cap2, ?_, ?_, ?_⟩
    · rw [H1.out, H2.out, belows_len]
    · rw [H2.out, belows_len]
      have z12 : w.heap.size + 1 < w1.heap.size := R1.1.1
      exact ((ho2.setBelow (p := ⟨w.heap.size + 1, 0, none⟩) (show w.heap.size + 1 < w1.heap.size from z12) _).setBelow (p := ⟨w.heap.size + 1, 1, none⟩) (show w.heap.size + 1 < w1.heap.size from z12) _).mono (show w.heap.size ≤ w1.heap.size by omega)
    · exact ((bw1.trans (ht2.mono bw1.size)).setCell (by simp) _).setCell (by simp) _

set_option maxRecDepth 100000 in
set_option maxHeartbeats 8000000 in
theorem walk (a0 : Option Addr) (n0 cap0 : Nat) (a1 : Option Addr) (n1 cap1 : Nat) (w : World) (hR0 : RdB w a0 n0) (hl0 : n0 ≤ 9223372036854775807) (hR1 : RdB w a1 n1) (hl1 : n1 ≤ 9223372036854775807) :
    Calls Try.prog 8 #[.slice a0 n0 cap0, .slice a1 n1 cap1] w fun e w' => e = .returned (.bool true) ∧ Below w.heap.size w w' := by
  go_enter Try.func8, Try.ntmps8
  go_wp2_with fail
  refine (big_any _ _ _ _ _ _ _ hl0 hl1).mono ?_
  rintro e w' ⟨he, rfl⟩
  rcases he with rfl | ⟨rfl, hb0, hb1⟩
  · go_wp2_with fail
    go_ret
    exact ⟨rfl, (by repeat (first | exact Below.refl _ _ | assumption | refine Below.alloc ?_ (by first | exact Nat.le_refl _ | (simp only [World.size_alloc, World.size_setCell, World.size_drew]; omega) | omega) _ | refine Below.setCell ?_ (by first | exact Nat.le_refl _ | (simp only [World.size_alloc, World.size_setCell, World.size_drew]; omega) | omega) _ | refine Below.drew ?_))⟩
  · go_wp2_with fail
    refine (drMxOrd_any _ _ _ _ hR0 hb0).mono ?_
    rintro e w1 ⟨n, a, cap, xs, rfl, ho, hl, hn0, hn1, hx, hb⟩
    have hnn : -9223372036854775808 ≤ n ∧ n ≤ 9223372036854775807 := by omega
    have HB := Lib.hid hb
    have HR := Lib.hid ho.rd
    clear hx ho hb hR0 hR1 hl0 hl1 hb0 hb1
    obtain ⟨M, hM⟩ : ∃ M, M = moL n xs := ⟨_, rfl⟩
    obtain ⟨I, hI⟩ : ∃ I, I = isIv n xs := ⟨_, rfl⟩
    have HIM := Lib.hid (fun W (h : Rd W a xs) => iMxOrd_any n a xs cap W hnn h)
    have HSM := Lib.hid (fun W (h : Rd W a xs) => sMxOrd_any n a xs cap W hnn h)
    have hml : M.length + totS M M.length ≤ 1048576 := by rw [hM]; exact moL_len n xs
    rw [← hM, ← hI] at HIM HSM
    have HI := Lib.hid hI
    have HM := Lib.hid hM
    have HML := Lib.hid hml
    have hml2 : M.length ≤ 1048576 := by omega
    have q1 : (I != I) = false := by simp
    clear hM hI hml
    have ba1 : Below w1.heap.size w1 (w1.alloc (.cells #[.int .i64 n, .slice a xs.length cap] 45)) := (Below.refl _ _).alloc (Nat.le_refl _) _
    have HA := Lib.hid (Box2.new w1 (.int .i64 n) (.slice a xs.length cap) 45)
    replace HB := Lib.hid (HB.out.trans (ba1.mono HB.out.size))
    replace HR := Lib.hid (HR.out.below ba1)
    obtain ⟨v1, hv1⟩ : ∃ x : World, x = w1.alloc (.cells #[.int .i64 n, .slice a xs.length cap] 45) := ⟨_, rfl⟩
    have HV1 := Lib.hid hv1
    rw [← hv1] at HA HB HR
    clear ba1 hv1
    have cA := HA.out.2
    go_wp2_with fail
    rw [← HV1.out]
    clear cA
    have ⟨zA, cA, dA⟩ := HA.out
    refine (HIM.out _ HR.out).mono ?_
    rintro e w3 ⟨a3, c3, v3', rfl, ho3, hb3⟩
    try clear zA cA dA
    replace HB := Lib.hid (HB.out.trans (hb3.mono HB.out.size))
    replace HA := Lib.hid (HA.out.below hb3)
    replace HR := Lib.hid (HR.out.below hb3)
    have ⟨zA, cA, dA⟩ := HA.out
    clear hb3
    have HC := Lib.hid ho3.rdC
    clear ho3
    have ba3 : Below w3.heap.size w3 (w3.alloc (.cells #[.slice a3 M.length c3] 40)) := (Below.refl _ _).alloc (Nat.le_refl _) _
    have HX := Lib.hid (Box1.new w3 (.slice a3 M.length c3) 40)
    replace HB := Lib.hid (HB.out.trans (ba3.mono HB.out.size))
    replace HA := Lib.hid (HA.out.below ba3)
    replace HR := Lib.hid (HR.out.below ba3)
    replace HC := Lib.hid (HC.out.below ba3)
    obtain ⟨v3, hv3⟩ : ∃ x : World, x = w3.alloc (.cells #[.slice a3 M.length c3] 40) := ⟨_, rfl⟩
    have HV3 := Lib.hid hv3
    rw [← hv3] at HX HB HA HR HC
    clear ba3 hv3
    have cX := HX.out.2
    go_wp2_with fail
    rw [← HV3.out]
    try clear zA cA dA
    clear cX
    have ⟨zA, cA, dA⟩ := HA.out
    have ⟨zX, cX⟩ := HX.out
    refine (HSM.out _ HR.out).mono ?_
    rintro e w4 ⟨a4, c4, v4', rfl, ho4, hb4⟩
    try clear zA cA dA
    try clear zX cX
    replace HB := Lib.hid (HB.out.trans (hb4.mono HB.out.size))
    replace HA := Lib.hid (HA.out.below hb4)
    replace HX := Lib.hid (HX.out.below hb4)
    replace HR := Lib.hid (HR.out.below hb4)
    replace HC := Lib.hid (HC.out.below hb4)
    have ⟨zA, cA, dA⟩ := HA.out
    have ⟨zX, cX⟩ := HX.out
    clear hb4
    have HD := Lib.hid ho4.rdC
    clear ho4 HIM HSM
    have ba4 : Below w4.heap.size w4 (w4.alloc (.cells #[.slice a4 M.length c4] 40)) := (Below.refl _ _).alloc (Nat.le_refl _) _
    have HY := Lib.hid (Box1.new w4 (.slice a4 M.length c4) 40)
    replace HB := Lib.hid (HB.out.trans (ba4.mono HB.out.size))
    replace HA := Lib.hid (HA.out.below ba4)
    replace HX := Lib.hid (HX.out.below ba4)
    replace HR := Lib.hid (HR.out.below ba4)
    replace HC := Lib.hid (HC.out.below ba4)
    replace HD := Lib.hid (HD.out.below ba4)
    obtain ⟨v4, hv4⟩ : ∃ x : World, x = w4.alloc (.cells #[.slice a4 M.length c4] 40) := ⟨_, rfl⟩
    have HV4 := Lib.hid hv4
    rw [← hv4] at HY HB HA HX HR HC HD
    clear ba4 hv4
    have cY := HY.out.2
    go_wp2_with fail
    rw [← HV4.out]
    try clear zA cA dA
    try clear zX cX
    clear cY
    have ⟨zA, cA, dA⟩ := HA.out
    have ⟨zX, cX⟩ := HX.out
    have ⟨zY, cY⟩ := HY.out
    refine ((pSameM_same a3 a4 M c3 c4 _ HC.out HD.out hml2)).mono ?_
    rintro e w5 ⟨rfl, hb5⟩
    try clear zA cA dA
    try clear zX cX
    try clear zY cY
    replace HB := Lib.hid (HB.out.trans (hb5.mono HB.out.size))
    replace HA := Lib.hid (HA.out.below hb5)
    replace HX := Lib.hid (HX.out.below hb5)
    replace HY := Lib.hid (HY.out.below hb5)
    replace HR := Lib.hid (HR.out.below hb5)
    replace HC := Lib.hid (HC.out.below hb5)
    replace HD := Lib.hid (HD.out.below hb5)
    have ⟨zA, cA, dA⟩ := HA.out
    have ⟨zX, cX⟩ := HX.out
    have ⟨zY, cY⟩ := HY.out
    clear hb5
    clear HD HY
    cases hII : I
    · go_wp2_with fail
      go_ret
      exact ⟨rfl, HB.out⟩
    · have hiv : isIv n xs = true := by rw [← HI.out]; exact hII
      have hor := isIv_ord hiv
      have hr := (ordB_iff.1 hor).1
      have hp := relB_p hr
      obtain rfl : n = (xs.length : Int) := hp.len.symm
      have hx10 : xs.length ≤ 10 := hl
      obtain ⟨ys, hys⟩ : ∃ ys, ys = belows xs xs.length := ⟨_, rfl⟩
      have hyl : ys.length = xs.length := by rw [hys]; exact belows_len xs xs.length
      have hmr : isIv (xs.length : Int) ys = true := by rw [hys]; exact isIv_mir hiv
      have hmn : mirN (xs.length : Int) xs = (xs.length : Int) := by simp [mirN, hr]
      have hml : mirL (xs.length : Int) xs = ys := by rw [hys]; simp [mirL, hr]
      obtain ⟨N, hN⟩ : ∃ N, N = moL (xs.length : Int) ys := ⟨_, rfl⟩
      have hdu : duL M = N := by rw [HM.out, hN, hys]; exact mo_dual hiv
      have hdd : duL N = M := by
        rw [hN, mo_dual hmr, HM.out, hys, mir_mir hr]
      have hmM : mxB M = true := by rw [HM.out]; exact mo_good hiv
      have hmN : mxB N = true := by rw [hN]; exact mo_good hmr
      obtain ⟨D, hD⟩ : ∃ D, D = (sets xs).length := ⟨_, rfl⟩
      have hDl : D ≤ 10 := by have := sets_len xs; omega
      have hM1 : M.length = D := by rw [HM.out, moL, if_pos hiv, sqM_len, hD]
      have hN1 : N.length = D := by rw [hN, moL, if_pos hmr, sqM_len, hys, (mir_lv hiv).1, hD]
      have hNl : N.length + totS N N.length ≤ 1048576 := by rw [hN]; exact moL_len _ _
      have hsum : ∀ i, i < D → nth (rsL M) i = nth (csL N) (D - 1 - i) ∧ nth (csL M) i = nth (rsL N) (D - 1 - i) := fun i hi => by
        rw [HM.out, hN, hys, hD]
        exact dual_sums hiv (by omega)
      have hr1 : (rsL M).length = D := by rw [rsL, if_pos hmM, fmap_len, hM1]
      have hc1 : (csL M).length = D := by rw [csL, if_pos hmM, fmap_len, hM1]
      have hr2 : (rsL N).length = D := by rw [rsL, if_pos hmN, fmap_len, hN1]
      have hc2 : (csL N).length = D := by rw [csL, if_pos hmN, fmap_len, hN1]
      have HMI : Hid (∀ W, Rd W a xs → Calls Try.prog 69 #[.agg #[.int .i64 (xs.length : Int), .slice a xs.length cap]] W fun e w' => ∃ a' c', e = .returned (.tuple #[.agg #[.int .i64 (xs.length : Int), .slice a' xs.length c'], .bool true]) ∧ OwnI w' W.heap.size (.slice a' xs.length c') ys ∧ Below W.heap.size W w') := fun W h => by
        have := iMirrorOf_any (xs.length : Int) a xs cap W hnn h
        unfold GotO at this
        rw [hmn, hml, hr, hyl] at this
        exact this
      have HID : Hid (∀ W a' c', RdC W a' M → Calls Try.prog 67 #[.agg #[.slice a' D c']] W fun e w' => ∃ a0 c0 vl, e = .returned (.tuple #[.agg #[.slice a0 D c0], .bool true]) ∧ RowsP w' W.heap.size (.slice a0 D c0) vl N ∧ Below W.heap.size W w') := fun W a' c' h => by
        have := iDual_any a' M c' W h HML.out
        rw [hdu, hmM, hM1, hN1] at this
        exact this
      have HSD : Hid (∀ W a' c', RdC W a' M → Calls Try.prog 68 #[.agg #[.slice a' D c']] W fun e w' => ∃ a0 c0 vl, e = .returned (.tuple #[.agg #[.slice a0 D c0], .bool true]) ∧ RowsP w' W.heap.size (.slice a0 D c0) vl N ∧ Below W.heap.size W w') := fun W a' c' h => by
        have := sDual_any a' M c' W h HML.out
        rw [hdu, hmM, hM1, hN1] at this
        exact this
      have HID2 : Hid (∀ W a' c', RdC W a' N → Calls Try.prog 67 #[.agg #[.slice a' D c']] W fun e w' => ∃ a0 c0 vl, e = .returned (.tuple #[.agg #[.slice a0 D c0], .bool true]) ∧ RowsP w' W.heap.size (.slice a0 D c0) vl M ∧ Below W.heap.size W w') := fun W a' c' h => by
        have := iDual_any a' N c' W h hNl
        rw [hdd, hmN, hM1, hN1] at this
        exact this
      have HO2 : Hid (∀ W a' c', Rd W a' ys → Calls Try.prog 64 #[.agg #[.int .i64 (xs.length : Int), .slice a' xs.length c']] W fun e w' => ∃ a0 c0 vl, e = .returned (.tuple #[.agg #[.slice a0 D c0], .bool true]) ∧ RowsP w' W.heap.size (.slice a0 D c0) vl N ∧ Below W.heap.size W w') := fun W a' c' h => by
        have := iMxOrd_any (xs.length : Int) a' ys c' W hnn h
        rw [← hN, hmr, hN1, hyl] at this
        exact this
      have HS1 : Hid (∀ W a' c', RdC W a' M → Calls Try.prog 70 #[.agg #[.slice a' D c']] W fun e w' => ∃ a0 c0 a1 c1, e = .returned (.tuple #[.slice a0 D c0, .slice a1 D c1, .bool true]) ∧ Rd w' a0 (rsL M) ∧ Rd w' a1 (csL M) ∧ Below W.heap.size W w') := fun W a' c' h => by
        have := iRowSums_any a' M c' W h HML.out
        rw [hmM, hM1, hr1, hc1] at this
        refine this.mono ?_
        rintro e w' ⟨a0, c0, a1, c1, rfl, h1, h2, _, h3⟩
        exact ⟨a0, c0, a1, c1, rfl, h1.rd, h2.rd, h3⟩
      have HS2 : Hid (∀ W a' c', RdC W a' N → Calls Try.prog 70 #[.agg #[.slice a' D c']] W fun e w' => ∃ a0 c0 a1 c1, e = .returned (.tuple #[.slice a0 D c0, .slice a1 D c1, .bool true]) ∧ Rd w' a0 (rsL N) ∧ Rd w' a1 (csL N) ∧ Below W.heap.size W w') := fun W a' c' h => by
        have := iRowSums_any a' N c' W h hNl
        rw [hmN, hN1, hr2, hc2] at this
        refine this.mono ?_
        rintro e w' ⟨a0, c0, a1, c1, rfl, h1, h2, _, h3⟩
        exact ⟨a0, c0, a1, c1, rfl, h1.rd, h2.rd, h3⟩
      have HPM : Hid (∀ W a' b' c' d', RdC W a' M → RdC W b' M → Calls Try.prog 66 #[.agg #[.slice a' D c'], .agg #[.slice b' D d']] W fun e w' => e = .returned (.bool true) ∧ Below W.heap.size W w') := fun W a' b' c' d' h1 h2 => by
        have := pSameM_same a' b' M c' d' W h1 h2 hml2
        rw [hM1] at this
        exact this
      have HPN : Hid (∀ W a' b' c' d', RdC W a' N → RdC W b' N → Calls Try.prog 66 #[.agg #[.slice a' D c'], .agg #[.slice b' D d']] W fun e w' => e = .returned (.bool true) ∧ Below W.heap.size W w') := fun W a' b' c' d' h1 h2 => by
        have := pSameM_same a' b' N c' d' W h1 h2 (by omega)
        rw [hN1] at this
        exact this
      rw [hM1] at HX
      have HRL := Lib.hid (And.intro hr1 (And.intro hc1 (And.intro hr2 hc2)))
      have HSU := Lib.hid hsum
      clear hr1 hc1 hr2 hc2 hsum hNl hN1 hM1 hD hmN hmM hdd hdu hN hml hmn hmr hyl hys hp hr hor hiv hII HI HM HML hml2
      generalize rsL M = r1 at *
      generalize csL M = k1 at *
      generalize rsL N = r2 at *
      generalize csL N = k2 at *
      try clear zA cA dA
      try clear zX cX
      have ⟨zA, cA, dA⟩ := HA.out
      have ⟨zX, cX⟩ := HX.out
      go_wp2_with fail
      refine (HID.out _ a3 c3 HC.out).mono ?_
      rintro e w6 ⟨a6, c6, v6', rfl, ho6, hb6⟩
      try clear zA cA dA
      try clear zX cX
      replace HB := Lib.hid (HB.out.trans (hb6.mono HB.out.size))
      replace HA := Lib.hid (HA.out.below hb6)
      replace HX := Lib.hid (HX.out.below hb6)
      replace HR := Lib.hid (HR.out.below hb6)
      replace HC := Lib.hid (HC.out.below hb6)
      have ⟨zA, cA, dA⟩ := HA.out
      have ⟨zX, cX⟩ := HX.out
      clear hb6
      have HD := Lib.hid ho6.rdC
      clear ho6
      have ba6 : Below w6.heap.size w6 (w6.alloc (.cells #[.slice a6 D c6] 40)) := (Below.refl _ _).alloc (Nat.le_refl _) _
      have HP := Lib.hid (Box1.new w6 (.slice a6 D c6) 40)
      replace HB := Lib.hid (HB.out.trans (ba6.mono HB.out.size))
      replace HA := Lib.hid (HA.out.below ba6)
      replace HX := Lib.hid (HX.out.below ba6)
      replace HR := Lib.hid (HR.out.below ba6)
      replace HC := Lib.hid (HC.out.below ba6)
      replace HD := Lib.hid (HD.out.below ba6)
      obtain ⟨v6, hv6⟩ : ∃ x : World, x = w6.alloc (.cells #[.slice a6 D c6] 40) := ⟨_, rfl⟩
      have HV6 := Lib.hid hv6
      rw [← hv6] at HP HB HA HX HR HC HD
      clear ba6 hv6
      have cP := HP.out.2
      go_wp2_with fail
      rw [← HV6.out]
      try clear zA cA dA
      try clear zX cX
      clear cP
      have ⟨zA, cA, dA⟩ := HA.out
      have ⟨zX, cX⟩ := HX.out
      have ⟨zP, cP⟩ := HP.out
      refine (HSD.out _ a3 c3 HC.out).mono ?_
      rintro e w7 ⟨a7, c7, v7', rfl, ho7, hb7⟩
      try clear zA cA dA
      try clear zX cX
      try clear zP cP
      replace HB := Lib.hid (HB.out.trans (hb7.mono HB.out.size))
      replace HA := Lib.hid (HA.out.below hb7)
      replace HX := Lib.hid (HX.out.below hb7)
      replace HP := Lib.hid (HP.out.below hb7)
      replace HR := Lib.hid (HR.out.below hb7)
      replace HC := Lib.hid (HC.out.below hb7)
      replace HD := Lib.hid (HD.out.below hb7)
      have ⟨zA, cA, dA⟩ := HA.out
      have ⟨zX, cX⟩ := HX.out
      have ⟨zP, cP⟩ := HP.out
      clear hb7
      have HE := Lib.hid ho7.rdC
      clear ho7
      have ba7 : Below w7.heap.size w7 (w7.alloc (.cells #[.slice a7 D c7] 40)) := (Below.refl _ _).alloc (Nat.le_refl _) _
      have HQ := Lib.hid (Box1.new w7 (.slice a7 D c7) 40)
      replace HB := Lib.hid (HB.out.trans (ba7.mono HB.out.size))
      replace HA := Lib.hid (HA.out.below ba7)
      replace HX := Lib.hid (HX.out.below ba7)
      replace HP := Lib.hid (HP.out.below ba7)
      replace HR := Lib.hid (HR.out.below ba7)
      replace HC := Lib.hid (HC.out.below ba7)
      replace HD := Lib.hid (HD.out.below ba7)
      replace HE := Lib.hid (HE.out.below ba7)
      obtain ⟨v7, hv7⟩ : ∃ x : World, x = w7.alloc (.cells #[.slice a7 D c7] 40) := ⟨_, rfl⟩
      have HV7 := Lib.hid hv7
      rw [← hv7] at HQ HB HA HX HP HR HC HD HE
      clear ba7 hv7
      have cQ := HQ.out.2
      go_wp2_with fail
      rw [← HV7.out]
      try clear zA cA dA
      try clear zX cX
      try clear zP cP
      clear cQ
      have ⟨zA, cA, dA⟩ := HA.out
      have ⟨zX, cX⟩ := HX.out
      have ⟨zP, cP⟩ := HP.out
      have ⟨zQ, cQ⟩ := HQ.out
      refine (HMI.out _ HR.out).mono ?_
      rintro e w8 ⟨a8, c8, rfl, ho8, hb8⟩
      try clear zA cA dA
      try clear zX cX
      try clear zP cP
      try clear zQ cQ
      replace HB := Lib.hid (HB.out.trans (hb8.mono HB.out.size))
      replace HA := Lib.hid (HA.out.below hb8)
      replace HX := Lib.hid (HX.out.below hb8)
      replace HP := Lib.hid (HP.out.below hb8)
      replace HQ := Lib.hid (HQ.out.below hb8)
      replace HR := Lib.hid (HR.out.below hb8)
      replace HC := Lib.hid (HC.out.below hb8)
      replace HD := Lib.hid (HD.out.below hb8)
      replace HE := Lib.hid (HE.out.below hb8)
      have ⟨zA, cA, dA⟩ := HA.out
      have ⟨zX, cX⟩ := HX.out
      have ⟨zP, cP⟩ := HP.out
      have ⟨zQ, cQ⟩ := HQ.out
      clear hb8
      have HY := Lib.hid ho8.rd
      clear ho8
      have ba8 : Below w8.heap.size w8 (w8.alloc (.cells #[.int .i64 (xs.length : Int), .slice a8 xs.length c8] 45)) := (Below.refl _ _).alloc (Nat.le_refl _) _
      have HS := Lib.hid (Box2.new w8 (.int .i64 (xs.length : Int)) (.slice a8 xs.length c8) 45)
      replace HB := Lib.hid (HB.out.trans (ba8.mono HB.out.size))
      replace HA := Lib.hid (HA.out.below ba8)
      replace HX := Lib.hid (HX.out.below ba8)
      replace HP := Lib.hid (HP.out.below ba8)
      replace HQ := Lib.hid (HQ.out.below ba8)
      replace HR := Lib.hid (HR.out.below ba8)
      replace HC := Lib.hid (HC.out.below ba8)
      replace HD := Lib.hid (HD.out.below ba8)
      replace HE := Lib.hid (HE.out.below ba8)
      replace HY := Lib.hid (HY.out.below ba8)
      obtain ⟨v8, hv8⟩ : ∃ x : World, x = w8.alloc (.cells #[.int .i64 (xs.length : Int), .slice a8 xs.length c8] 45) := ⟨_, rfl⟩
      have HV8 := Lib.hid hv8
      rw [← hv8] at HS HB HA HX HP HQ HR HC HD HE HY
      clear ba8 hv8
      have cS := HS.out.2
      go_wp2_with fail
      rw [← HV8.out]
      try clear zA cA dA
      try clear zX cX
      try clear zP cP
      try clear zQ cQ
      clear cS
      have ⟨zA, cA, dA⟩ := HA.out
      have ⟨zX, cX⟩ := HX.out
      have ⟨zP, cP⟩ := HP.out
      have ⟨zQ, cQ⟩ := HQ.out
      have ⟨zS, cS, dS⟩ := HS.out
      refine (HO2.out _ a8 c8 HY.out).mono ?_
      rintro e w9 ⟨a9, c9, v9', rfl, ho9, hb9⟩
      try clear zA cA dA
      try clear zX cX
      try clear zP cP
      try clear zQ cQ
      try clear zS cS dS
      replace HB := Lib.hid (HB.out.trans (hb9.mono HB.out.size))
      replace HA := Lib.hid (HA.out.below hb9)
      replace HX := Lib.hid (HX.out.below hb9)
      replace HP := Lib.hid (HP.out.below hb9)
      replace HQ := Lib.hid (HQ.out.below hb9)
      replace HS := Lib.hid (HS.out.below hb9)
      replace HR := Lib.hid (HR.out.below hb9)
      replace HC := Lib.hid (HC.out.below hb9)
      replace HD := Lib.hid (HD.out.below hb9)
      replace HE := Lib.hid (HE.out.below hb9)
      replace HY := Lib.hid (HY.out.below hb9)
      have ⟨zA, cA, dA⟩ := HA.out
      have ⟨zX, cX⟩ := HX.out
      have ⟨zP, cP⟩ := HP.out
      have ⟨zQ, cQ⟩ := HQ.out
      have ⟨zS, cS, dS⟩ := HS.out
      clear hb9
      have HF := Lib.hid ho9.rdC
      clear ho9
      have ba9 : Below w9.heap.size w9 (w9.alloc (.cells #[.slice a9 D c9] 40)) := (Below.refl _ _).alloc (Nat.le_refl _) _
      have HT := Lib.hid (Box1.new w9 (.slice a9 D c9) 40)
      replace HB := Lib.hid (HB.out.trans (ba9.mono HB.out.size))
      replace HA := Lib.hid (HA.out.below ba9)
      replace HX := Lib.hid (HX.out.below ba9)
      replace HP := Lib.hid (HP.out.below ba9)
      replace HQ := Lib.hid (HQ.out.below ba9)
      replace HS := Lib.hid (HS.out.below ba9)
      replace HR := Lib.hid (HR.out.below ba9)
      replace HC := Lib.hid (HC.out.below ba9)
      replace HD := Lib.hid (HD.out.below ba9)
      replace HE := Lib.hid (HE.out.below ba9)
      replace HY := Lib.hid (HY.out.below ba9)
      replace HF := Lib.hid (HF.out.below ba9)
      obtain ⟨v9, hv9⟩ : ∃ x : World, x = w9.alloc (.cells #[.slice a9 D c9] 40) := ⟨_, rfl⟩
      have HV9 := Lib.hid hv9
      rw [← hv9] at HT HB HA HX HP HQ HS HR HC HD HE HY HF
      clear ba9 hv9
      have cT := HT.out.2
      go_wp2_with fail
      rw [← HV9.out]
      try clear zA cA dA
      try clear zX cX
      try clear zP cP
      try clear zQ cQ
      try clear zS cS dS
      clear cT
      have ⟨zA, cA, dA⟩ := HA.out
      have ⟨zX, cX⟩ := HX.out
      have ⟨zP, cP⟩ := HP.out
      have ⟨zQ, cQ⟩ := HQ.out
      have ⟨zS, cS, dS⟩ := HS.out
      have ⟨zT, cT⟩ := HT.out
      refine (HID2.out _ a6 c6 HD.out).mono ?_
      rintro e w10 ⟨a10, c10, v10', rfl, ho10, hb10⟩
      try clear zA cA dA
      try clear zX cX
      try clear zP cP
      try clear zQ cQ
      try clear zS cS dS
      try clear zT cT
      replace HB := Lib.hid (HB.out.trans (hb10.mono HB.out.size))
      replace HA := Lib.hid (HA.out.below hb10)
      replace HX := Lib.hid (HX.out.below hb10)
      replace HP := Lib.hid (HP.out.below hb10)
      replace HQ := Lib.hid (HQ.out.below hb10)
      replace HS := Lib.hid (HS.out.below hb10)
      replace HT := Lib.hid (HT.out.below hb10)
      replace HR := Lib.hid (HR.out.below hb10)
      replace HC := Lib.hid (HC.out.below hb10)
      replace HD := Lib.hid (HD.out.below hb10)
      replace HE := Lib.hid (HE.out.below hb10)
      replace HY := Lib.hid (HY.out.below hb10)
      replace HF := Lib.hid (HF.out.below hb10)
      have ⟨zA, cA, dA⟩ := HA.out
      have ⟨zX, cX⟩ := HX.out
      have ⟨zP, cP⟩ := HP.out
      have ⟨zQ, cQ⟩ := HQ.out
      have ⟨zS, cS, dS⟩ := HS.out
      have ⟨zT, cT⟩ := HT.out
      clear hb10
      have HG := Lib.hid ho10.rdC
      clear ho10
      have ba10 : Below w10.heap.size w10 (w10.alloc (.cells #[.slice a10 D c10] 40)) := (Below.refl _ _).alloc (Nat.le_refl _) _
      have HU := Lib.hid (Box1.new w10 (.slice a10 D c10) 40)
      replace HB := Lib.hid (HB.out.trans (ba10.mono HB.out.size))
      replace HA := Lib.hid (HA.out.below ba10)
      replace HX := Lib.hid (HX.out.below ba10)
      replace HP := Lib.hid (HP.out.below ba10)
      replace HQ := Lib.hid (HQ.out.below ba10)
      replace HS := Lib.hid (HS.out.below ba10)
      replace HT := Lib.hid (HT.out.below ba10)
      replace HR := Lib.hid (HR.out.below ba10)
      replace HC := Lib.hid (HC.out.below ba10)
      replace HD := Lib.hid (HD.out.below ba10)
      replace HE := Lib.hid (HE.out.below ba10)
      replace HY := Lib.hid (HY.out.below ba10)
      replace HF := Lib.hid (HF.out.below ba10)
      replace HG := Lib.hid (HG.out.below ba10)
      obtain ⟨v10, hv10⟩ : ∃ x : World, x = w10.alloc (.cells #[.slice a10 D c10] 40) := ⟨_, rfl⟩
      have HV10 := Lib.hid hv10
      rw [← hv10] at HU HB HA HX HP HQ HS HT HR HC HD HE HY HF HG
      clear ba10 hv10
      have cU := HU.out.2
      go_wp2_with fail
      rw [← HV10.out]
      try clear zA cA dA
      try clear zX cX
      try clear zP cP
      try clear zQ cQ
      try clear zS cS dS
      try clear zT cT
      clear cU
      have ⟨zA, cA, dA⟩ := HA.out
      have ⟨zX, cX⟩ := HX.out
      have ⟨zP, cP⟩ := HP.out
      have ⟨zQ, cQ⟩ := HQ.out
      have ⟨zS, cS, dS⟩ := HS.out
      have ⟨zT, cT⟩ := HT.out
      have ⟨zU, cU⟩ := HU.out
      refine (HS1.out _ a3 c3 HC.out).mono ?_
      rintro e w11 ⟨a11, c11, a11', c11', rfl, ho11, ho11', hb11⟩
      try clear zA cA dA
      try clear zX cX
      try clear zP cP
      try clear zQ cQ
      try clear zS cS dS
      try clear zT cT
      try clear zU cU
      replace HB := Lib.hid (HB.out.trans (hb11.mono HB.out.size))
      replace HA := Lib.hid (HA.out.below hb11)
      replace HX := Lib.hid (HX.out.below hb11)
      replace HP := Lib.hid (HP.out.below hb11)
      replace HQ := Lib.hid (HQ.out.below hb11)
      replace HS := Lib.hid (HS.out.below hb11)
      replace HT := Lib.hid (HT.out.below hb11)
      replace HU := Lib.hid (HU.out.below hb11)
      replace HR := Lib.hid (HR.out.below hb11)
      replace HC := Lib.hid (HC.out.below hb11)
      replace HD := Lib.hid (HD.out.below hb11)
      replace HE := Lib.hid (HE.out.below hb11)
      replace HY := Lib.hid (HY.out.below hb11)
      replace HF := Lib.hid (HF.out.below hb11)
      replace HG := Lib.hid (HG.out.below hb11)
      have ⟨zA, cA, dA⟩ := HA.out
      have ⟨zX, cX⟩ := HX.out
      have ⟨zP, cP⟩ := HP.out
      have ⟨zQ, cQ⟩ := HQ.out
      have ⟨zS, cS, dS⟩ := HS.out
      have ⟨zT, cT⟩ := HT.out
      have ⟨zU, cU⟩ := HU.out
      clear hb11
      have HV := Lib.hid ho11
      have HW := Lib.hid ho11'
      clear ho11 ho11'
      go_wp2_with fail
      refine (HS2.out _ a6 c6 HD.out).mono ?_
      rintro e w12 ⟨a12, c12, a12', c12', rfl, ho12, ho12', hb12⟩
      try clear zA cA dA
      try clear zX cX
      try clear zP cP
      try clear zQ cQ
      try clear zS cS dS
      try clear zT cT
      try clear zU cU
      replace HB := Lib.hid (HB.out.trans (hb12.mono HB.out.size))
      replace HA := Lib.hid (HA.out.below hb12)
      replace HX := Lib.hid (HX.out.below hb12)
      replace HP := Lib.hid (HP.out.below hb12)
      replace HQ := Lib.hid (HQ.out.below hb12)
      replace HS := Lib.hid (HS.out.below hb12)
      replace HT := Lib.hid (HT.out.below hb12)
      replace HU := Lib.hid (HU.out.below hb12)
      replace HR := Lib.hid (HR.out.below hb12)
      replace HC := Lib.hid (HC.out.below hb12)
      replace HD := Lib.hid (HD.out.below hb12)
      replace HE := Lib.hid (HE.out.below hb12)
      replace HY := Lib.hid (HY.out.below hb12)
      replace HF := Lib.hid (HF.out.below hb12)
      replace HG := Lib.hid (HG.out.below hb12)
      replace HV := Lib.hid (HV.out.below hb12)
      replace HW := Lib.hid (HW.out.below hb12)
      have ⟨zA, cA, dA⟩ := HA.out
      have ⟨zX, cX⟩ := HX.out
      have ⟨zP, cP⟩ := HP.out
      have ⟨zQ, cQ⟩ := HQ.out
      have ⟨zS, cS, dS⟩ := HS.out
      have ⟨zT, cT⟩ := HT.out
      have ⟨zU, cU⟩ := HU.out
      clear hb12
      have HZ := Lib.hid ho12
      have HJ := Lib.hid ho12'
      clear ho12 ho12'
      go_wp2_with fail
      refine (HPN.out _ a6 a7 c6 c7 HD.out HE.out).mono ?_
      rintro e w13 ⟨rfl, hb13⟩
      try clear zA cA dA
      try clear zX cX
      try clear zP cP
      try clear zQ cQ
      try clear zS cS dS
      try clear zT cT
      try clear zU cU
      replace HB := Lib.hid (HB.out.trans (hb13.mono HB.out.size))
      replace HA := Lib.hid (HA.out.below hb13)
      replace HX := Lib.hid (HX.out.below hb13)
      replace HP := Lib.hid (HP.out.below hb13)
      replace HQ := Lib.hid (HQ.out.below hb13)
      replace HS := Lib.hid (HS.out.below hb13)
      replace HT := Lib.hid (HT.out.below hb13)
      replace HU := Lib.hid (HU.out.below hb13)
      replace HR := Lib.hid (HR.out.below hb13)
      replace HC := Lib.hid (HC.out.below hb13)
      replace HD := Lib.hid (HD.out.below hb13)
      replace HE := Lib.hid (HE.out.below hb13)
      replace HY := Lib.hid (HY.out.below hb13)
      replace HF := Lib.hid (HF.out.below hb13)
      replace HG := Lib.hid (HG.out.below hb13)
      replace HV := Lib.hid (HV.out.below hb13)
      replace HW := Lib.hid (HW.out.below hb13)
      replace HZ := Lib.hid (HZ.out.below hb13)
      replace HJ := Lib.hid (HJ.out.below hb13)
      have ⟨zA, cA, dA⟩ := HA.out
      have ⟨zX, cX⟩ := HX.out
      have ⟨zP, cP⟩ := HP.out
      have ⟨zQ, cQ⟩ := HQ.out
      have ⟨zS, cS, dS⟩ := HS.out
      have ⟨zT, cT⟩ := HT.out
      have ⟨zU, cU⟩ := HU.out
      clear hb13
      go_wp2_with fail
      refine (HPN.out _ a6 a9 c6 c9 HD.out HF.out).mono ?_
      rintro e w14 ⟨rfl, hb14⟩
      try clear zA cA dA
      try clear zX cX
      try clear zP cP
      try clear zQ cQ
      try clear zS cS dS
      try clear zT cT
      try clear zU cU
      replace HB := Lib.hid (HB.out.trans (hb14.mono HB.out.size))
      replace HA := Lib.hid (HA.out.below hb14)
      replace HX := Lib.hid (HX.out.below hb14)
      replace HP := Lib.hid (HP.out.below hb14)
      replace HQ := Lib.hid (HQ.out.below hb14)
      replace HS := Lib.hid (HS.out.below hb14)
      replace HT := Lib.hid (HT.out.below hb14)
      replace HU := Lib.hid (HU.out.below hb14)
      replace HR := Lib.hid (HR.out.below hb14)
      replace HC := Lib.hid (HC.out.below hb14)
      replace HD := Lib.hid (HD.out.below hb14)
      replace HE := Lib.hid (HE.out.below hb14)
      replace HY := Lib.hid (HY.out.below hb14)
      replace HF := Lib.hid (HF.out.below hb14)
      replace HG := Lib.hid (HG.out.below hb14)
      replace HV := Lib.hid (HV.out.below hb14)
      replace HW := Lib.hid (HW.out.below hb14)
      replace HZ := Lib.hid (HZ.out.below hb14)
      replace HJ := Lib.hid (HJ.out.below hb14)
      have ⟨zA, cA, dA⟩ := HA.out
      have ⟨zX, cX⟩ := HX.out
      have ⟨zP, cP⟩ := HP.out
      have ⟨zQ, cQ⟩ := HQ.out
      have ⟨zS, cS, dS⟩ := HS.out
      have ⟨zT, cT⟩ := HT.out
      have ⟨zU, cU⟩ := HU.out
      clear hb14
      go_wp2_with fail
      refine (HPM.out _ a10 a3 c10 c3 HG.out HC.out).mono ?_
      rintro e w15 ⟨rfl, hb15⟩
      try clear zA cA dA
      try clear zX cX
      try clear zP cP
      try clear zQ cQ
      try clear zS cS dS
      try clear zT cT
      try clear zU cU
      replace HB := Lib.hid (HB.out.trans (hb15.mono HB.out.size))
      replace HA := Lib.hid (HA.out.below hb15)
      replace HX := Lib.hid (HX.out.below hb15)
      replace HP := Lib.hid (HP.out.below hb15)
      replace HQ := Lib.hid (HQ.out.below hb15)
      replace HS := Lib.hid (HS.out.below hb15)
      replace HT := Lib.hid (HT.out.below hb15)
      replace HU := Lib.hid (HU.out.below hb15)
      replace HR := Lib.hid (HR.out.below hb15)
      replace HC := Lib.hid (HC.out.below hb15)
      replace HD := Lib.hid (HD.out.below hb15)
      replace HE := Lib.hid (HE.out.below hb15)
      replace HY := Lib.hid (HY.out.below hb15)
      replace HF := Lib.hid (HF.out.below hb15)
      replace HG := Lib.hid (HG.out.below hb15)
      replace HV := Lib.hid (HV.out.below hb15)
      replace HW := Lib.hid (HW.out.below hb15)
      replace HZ := Lib.hid (HZ.out.below hb15)
      replace HJ := Lib.hid (HJ.out.below hb15)
      have ⟨zA, cA, dA⟩ := HA.out
      have ⟨zX, cX⟩ := HX.out
      have ⟨zP, cP⟩ := HP.out
      have ⟨zQ, cQ⟩ := HQ.out
      have ⟨zS, cS, dS⟩ := HS.out
      have ⟨zT, cT⟩ := HT.out
      have ⟨zU, cU⟩ := HU.out
      clear hb15
      try clear zA cA dA zX cX zP cP zQ cQ zS cS dS zT cT zU cU
      clear HA HX HP HQ HS HT HU
      clear HPN HPM HS1 HS2 HO2 HID HSD HID2 HMI HR HC HD HE HY HF HG
      go_wp2_with fail
      have hw0 : IntKind.i64.wrap ((D : Int) - 1) = (D : Int) - 1 := wrap64_small _ (by omega) (by omega)
      go_loopw [139] (fun i wr => ∃ k : Nat, k ≤ D ∧ i = .int .i64 k ∧ Below w15.heap.size w15 wr) (fun i _ => D - (intOf i).toNat)
      case atStart => exact ⟨0, Nat.zero_le _, rfl, Below.refl _ _⟩
      case round =>
        obtain ⟨k, hk, rfl, hb⟩ := hrel
        by_cases hlt : k < D
        · have k1 : (k : Int) < (D : Int) := by omega
          have HT9 := Lib.hid hb
          have ⟨l1, l2, l3, l4⟩ := HRL.out
          obtain ⟨q, hq⟩ : ∃ q, q = D - 1 - k := ⟨_, rfl⟩
          have hqD : q < D := by omega
          have q1' : (q : Int) < (D : Int) := by omega
          have q0 : (0 : Int) ≤ (q : Int) := by omega
          have hsu := HSU.out k hlt
          rw [← hq] at hsu
          have hwq : IntKind.i64.wrap ((D : Int) - 1 - (k : Int)) = (q : Int) := by rw [wrap64_small _ (by omega) (by omega)]; omega
          obtain ⟨b1, o1, rfl, hb1, hc1⟩ := (HV.out.below hb).cell k (by omega)
          obtain ⟨b2, o2, rfl, hb2, hc2⟩ := (HW.out.below hb).cell k (by omega)
          obtain ⟨b3, o3, rfl, hb3, hc3⟩ := (HZ.out.below hb).cell q (by omega)
          obtain ⟨b4, o4, rfl, hb4, hc4⟩ := (HJ.out.below hb).cell q (by omega)
          rw [hsu.1] at hc1
          rw [hsu.2] at hc2
          generalize nth k2 q = y1 at *
          generalize nth r2 q = y2 at *
          have p1 : (y1 != y1) = false := by simp
          have p2 : (y2 != y2) = false := by simp
          clear hb hq hsu l1 l2 l3 l4
          go_wp2_with fail
          go_quiet (fail)
          go_wp2_with fail
          go_roundw
          case rel => exact ⟨k + 1, by omega, by go_num, HT9.out.trans (Joins.below_draws _ _ _)⟩
          case measure => simp [intOf]; omega
        · obtain rfl : k = D := by omega
          go_wp2_with fail
          go_ret
          exact ⟨rfl, HB.out.trans (hb.mono HB.out.size)⟩

theorem rd_of_trod {H : Type} {enc : TypeId × Value → H} {W : World} {fuel : Nat} {c : Value} {y : DataW H × List MemPlace}
    (h : DataW.trod enc Try.prog W 0 (fun _ => true) true fuel 24 [c] = some y) : ∃ (a : Option Addr) (xs : List Int) (cap : Nat), c = .slice a xs.length cap ∧ Rd W a xs ∧ ∀ k, k < xs.length → (Lit.int .i64 (nth xs k)).wf = true := by
  rcases Go.ChangeShapes.open_ints Try.underlying24 Try.underlying3 (by kernel_rfl) h with ⟨hcs, _⟩ | ⟨x, len, cap, zs, hcs, _, hl, hm, hz, _, hcell, hwf⟩
  · simp only [List.cons.injEq, and_true] at hcs
    exact ⟨none, [], 0, hcs, ⟨by simp, fun k hk => by simp at hk⟩, fun k hk => by simp at hk⟩
  · simp only [List.cons.injEq, and_true] at hcs
    simp only [if_true] at hz
    have hlen : (zs.take len).length = len := by rw [List.length_take]; omega
    have hn : ∀ k, k < len → nth (zs.take len) k = zs.getD k 0 := by
      intro k hk
      simp only [nth, List.getD_eq_getElem?_getD, List.getElem?_take, hk, if_true]
    refine ⟨some x, zs.take len, cap, by rw [hlen]; exact hcs, ⟨by rw [hlen]; unfold maxLen at hm; omega, fun k hk => ?_⟩, fun k hk => ?_⟩
    · rw [hlen] at hk
      obtain ⟨b, off, sp⟩ := x
      have h0 := hcell 0 (by omega)
      have hsp : sp = none := by simpa [Addr.add] using World.cell?_spot h0
      subst hsp
      have hk' := hcell k (by omega)
      rw [Addr.add_lit] at hk'
      exact ⟨b, off, rfl, World.block_lt_of_cell? _ _ h0, by rw [hk', hn k hk]⟩
    · rw [hlen] at hk
      rw [hn k hk]
      have hk2 : k < zs.length := by omega
      exact hwf _ (by rw [List.getD_eq_getElem?_getD, List.getElem?_eq_getElem hk2]; exact List.getElem_mem hk2)

theorem own : ownKnob Try.prog.godebug = none := by kernel_rfl
theorem laidOut : laidOutB Try.prog = true := by kernel_rfl
theorem wf_bd {n : Int} (h : (Lit.int .i64 n).wf = true) : -9223372036854775808 ≤ n ∧ n ≤ 9223372036854775807 := by
  simp [Lit.wf, IntKind.min, IntKind.max, IntKind.bits, IntKind.signed] at h
  omega

theorem wf_byte {n : Int} (h : (Lit.int .u8 n).wf = true) : 0 ≤ n ∧ n ≤ 255 := by
  simp [Lit.wf, IntKind.min, IntKind.max, IntKind.bits, IntKind.signed] at h
  omega
/-- a slice of bytes that was handed over -/
theorem rdB_of_trod {H : Type} {enc : TypeId × Value → H} {W : World} {fuel : Nat} {c : Value} {y : DataW H × List MemPlace}
    (h : DataW.trod enc Try.prog W 0 (fun _ => true) true fuel 22 [c] = some y) : ∃ (a : Option Addr) (n cap : Nat), c = .slice a n cap ∧ RdB W a n ∧ n ≤ 9223372036854775807 := by
  rcases Go.ChangeShapes.open_ints Try.underlying22 Try.underlying5 (by kernel_rfl) h with ⟨hcs, _⟩ | ⟨x, len, cap, zs, hcs, _, hl, hm, hz, _, hcell, hwf⟩
  · simp only [List.cons.injEq, and_true] at hcs
    exact ⟨none, 0, 0, hcs, ⟨fun k hk => by omega⟩, by omega⟩
  · simp only [List.cons.injEq, and_true] at hcs
    simp only [if_true] at hz
    refine ⟨some x, len, cap, hcs, ⟨fun k hk => ?_⟩, by unfold maxLen at hm; omega⟩
    obtain ⟨b, off, sp⟩ := x
    have h0 := hcell 0 (by omega)
    have hsp : sp = none := by simpa [Addr.add] using World.cell?_spot h0
    subst hsp
    have hk' := hcell k (by omega)
    rw [Addr.add_lit] at hk'
    have hk2 : k < zs.length := by omega
    have hw := hwf _ (show zs.getD k 0 ∈ zs by rw [List.getD_eq_getElem?_getD, List.getElem?_eq_getElem hk2]; exact List.getElem_mem hk2)
    refine ⟨b, off, rfl, World.block_lt_of_cell? _ _ h0, zs.getD k 0, hk', ?_⟩
    exact wf_byte hw

open Go.ChangeShapes Go.WideShapes Go.ChangeAt Go.RowKit in
set_option maxRecDepth 100000 in
theorem lifted (os : Os) (started : os.Started) (H : Type) (enc : TypeId × Value → H) :
    ReturnsInHanded {} Try.checked os 8 .any (Rows.fnDualMatricesSpec.pre6 enc Try.prog Try.f8 Rows.fnDualMatricesRow.domain false) (Rows.fnDualMatricesSpec.post enc Try.prog Try.f8 false true false false) := by
  refine returnsInHanded_of_change (C := Try.checked) own started (by kernel_rfl) Try.func8
    (ChangeSpec.witness6 (enc := enc) (C := Try.checked) false ⟨#[], #[.slice none 0 0, .slice none 0 0], []⟩ 8 (by kernel_rfl) (by kernel_rfl) (by kernel_rfl) (by kernel_rfl)) ?_
  intro W base args ds gs before hval0 hW hcnd _
  have hval : ∀ (j : Nat) t v, Try.f8.params[j]? = some t → args[j]? = some v → Value.okWide Try.prog W .any base t v := hval0
  have hW' := hW
  obtain ⟨p, q, hA0, hV, rfl, hfz, hnd⟩ := hW
  have hA : DataW.TrodAll enc Try.prog W 0 (fun _ => true) true Try.f8.params.toList args.toList ds p := hA0
  rw [Try.params8] at hA hval
  obtain ⟨v0, vs0, d0, ds0, p0, q0, hargs, rfl, rfl, h0, r0⟩ := trodAll_cons hA
  obtain ⟨v1, vs1, d1, ds1, p1, q1, rfl, rfl, rfl, h1, r1⟩ := trodAll_cons r0
  obtain ⟨rfl, rfl, rfl⟩ := trodAll_nil r1
  obtain rfl : args = #[v0, v1] := by cases args; simp_all
  obtain ⟨rfl, rfl⟩ := trodVars_none hV
  have lt0 : ∀ x ∈ p0, x.block < W.heap.size := by obtain ⟨m, hm⟩ := h0; exact DataW.trod_lt m _ _ _ hm
  have lt1 : ∀ x ∈ p1, x.block < W.heap.size := by obtain ⟨m, hm⟩ := h1; exact DataW.trod_lt m _ _ _ hm
  obtain ⟨a0, len0, cap0, rfl⟩ := okWide_slice Try.underlying22 (hval 0 22 v0 rfl rfl)
  obtain ⟨a0, n0, cap0, e0, rd0, ln0⟩ := (by obtain ⟨fu, hf⟩ := h0; simp only [Value.cells] at hf; exact rdB_of_trod hf : ∃ (a : Option Addr) (n cap : Nat), Value.slice a0 len0 cap0 = .slice a n cap ∧ RdB W a n ∧ n ≤ 9223372036854775807)
  simp only [Value.slice.injEq] at e0
  obtain ⟨rfl, rfl, rfl⟩ := e0
  obtain ⟨a1, len1, cap1, rfl⟩ := okWide_slice Try.underlying22 (hval 1 22 v1 rfl rfl)
  obtain ⟨a1, n1, cap1, e1, rd1, ln1⟩ := (by obtain ⟨fu, hf⟩ := h1; simp only [Value.cells] at hf; exact rdB_of_trod hf : ∃ (a : Option Addr) (n cap : Nat), Value.slice a1 len1 cap1 = .slice a n cap ∧ RdB W a n ∧ n ≤ 9223372036854775807)
  simp only [Value.slice.injEq] at e1
  obtain ⟨rfl, rfl, rfl⟩ := e1
  clear hA0 hval0
  refine (walk a0 len0 cap0 a1 len1 cap1 W rd0 ln0 rd1 ln1).mono fun e W' ⟨he, bel⟩ => ?_
  subst he
  exact ⟨_, rfl, _, _, _, [], _, [], hW', trodAll_mk1 (shut_bool Try.underlying4 _), (trodAll_cons_mk (Below.trod laidOut (by kernel_rfl) (of_decide_eq_true (by kernel_rfl)) h0 bel lt0) (trodAll_cons_mk (Below.trod laidOut (by kernel_rfl) (of_decide_eq_true (by kernel_rfl)) h1 bel lt1) trodAll_mk0)), rfl, bel.frame _, fun h => by cases h⟩
theorem proved : Rows.FnDualMatricesSaid :=
  OpenClaim.holds_of_wide 8 Try.f8 rfl rfl rfl rfl rfl rfl rfl ⟨rfl, rfl, rfl, rfl, rfl⟩ rfl rfl rfl rfl rfl (by kernel_rfl) Try.func8 (by kernel_rfl)
    (of_decide_eq_true (by kernel_rfl)) (by unfold Func.isWrapper; first | (rw [if_pos (by decide +kernel)]; kernel_rfl) | (rw [if_neg (by decide +kernel)]; exact ⟨rfl, rfl⟩))
    (fun os started H enc _ => lifted os started H enc)

end Go.Proofs.Ytkcdahcljcekcaa.dualMatrices
