/- PROVED: the law FnExactTidyMatching returns true for every input, and each of its arguments reads afterwards as before. No conditions. -/
import Derived.Test.YtjolgaaggpnkhaaRows
import Derived.WalkKit
import Derived.WalkSpells
import Derived.WalkLawsBesides
import Derived.Deep.QuietTactic
import Derived.BigQuiet
import Derived.ProofKit
import Derived.OpenShut
import Derived.ShutString
import Derived.ChangeOld
import Derived.Below
import Derived.Lib.SmallJoins
import Derived.Lib.Hide
import Derived.Maps.AppendAt
import Derived.Deep.AppendLies
import Derived.Deep.RegionLaw
import Derived.Deep.RegionHeld3
import Derived.Test.YtjolgaaggpnkhaaTidyMatchingP1
namespace Go.Proofs.Ytjolgaaggpnkhaa.tidyMatching
open Go Go.RowKit
set_option linter.unusedVariables false
set_option linter.unusedSimpArgs false
set_option maxHeartbeats 400000
set_option maxRecDepth 100000 in
set_option maxHeartbeats 1000000 in
theorem stOf_any (a : Option Addr) (xss : List (List Int)) (cap : Nat) (w : World) (hx : RdC w a xss) (hm : mxB xss = true) :
    Calls Try.prog 32 #[.agg #[.slice a xss.length cap]] w fun e w' => ∃ a1 c1, e = .returned (.slice a1 (tmL xss).length c1) ∧ OwnI w' w.heap.size (.slice a1 (tmL xss).length c1) (tmL xss) ∧ Below w.heap.size w w' := by
  obtain ⟨i0, hi, hz0, hz1, hz2⟩ := info_parts infoInt
  have h12 := mxB_small hm
  have ⟨hN2, hN24⟩ := en_two hm
  have HTL : Hid (tmL xss = P1 (tmF (enN xss) xss.length) (oP (enN xss) xss.length xss.length) (oP (enN xss) xss.length xss.length)) := by rw [Hid, tmL, if_pos hm, P1_end]
  have HM := Lib.hid hm
  have HU := Lib.hid (en_up xss)
  have HIN := Lib.hid (tm_Inv (d := xss.length) (en_up xss))
  obtain ⟨W0, hW0⟩ : ∃ x : World, x = w.alloc (.cells #[.slice a xss.length cap] 29) := ⟨_, rfl⟩
  have bw0 : Below w.heap.size w W0 := by rw [hW0]; exact (Below.refl _ _).alloc (Nat.le_refl _) _
  have B0 : Box1 W0 w.heap.size (.slice a xss.length cap) := by rw [hW0]; exact Box1.new w _ _
  have hx0 := hx.below bw0
  obtain ⟨g0, hg0⟩ : ∃ g, g = w.heap.size := ⟨_, rfl⟩
  clear hm hx
  go_enter Try.func32, Try.ntmps32
  go_wp2_with fail
  rw [← hW0]
  rw [← hg0] at B0 ⊢
  have ⟨zB0, cB0⟩ := B0
  clear hg0 hW0
  go_wp2_with fail
  refine (stPlaces_any _ _ _ _ hx0 HM.out).mono ?_
  rintro e w1 ⟨a1, c1, a2, c2, rfl, o1, o2, hs, hb1⟩
  have hx1 := hx0.below hb1
  have ⟨zB1, cB1⟩ := B0.below hb1
  clear cB0
  go_wp2_with fail
  refine (maSum_any _ _ _ _ hx1.rd h12 (fun k hk => mxB_len HM.out hk) (fun k hk j hj => mxB_num HM.out hk (by rw [mxB_len HM.out hk] at hj; exact hj))).mono ?_
  rintro e w2 ⟨rfl, hb2⟩
  have b2 : Below W0.heap.size W0 w2 := hb1.trans (hb2.mono hb1.size)
  have p1 := o1.below hb2 (Nat.le_refl _)
  have p2 := o2.below hb2 (Nat.le_refl _)
  obtain ⟨N, hN⟩ : ∃ N, N = oP (enN xss) xss.length xss.length := ⟨_, rfl⟩
  obtain ⟨S, hS⟩ : ∃ S, S = matS xss xss.length := ⟨_, rfl⟩
  rw [← hN, ← hS] at hN2
  rw [← hN] at hN24
  rw [← hS]
  have hS0 : 0 ≤ S ∧ S ≤ 12 := by omega
  clear hS hb2 o1 o2 hx1 cB1
  have ⟨zB2, cB2⟩ := B0.below b2
  go_wp2_with (at_make; refine wpList_make_full _ rfl (.tmp 17) (.tmp 17) 26 rfl W0.heap.size 3 i0 (.int .i64 0) 1 Try.underlying26 hi hz0 hz1 .i64 .i64 _ _ N rfl rfl (by omega) (by omega) (by rw [hz2]; omega) (by unfold maxLen; omega) b2.size ?_; intro w3 hown hgrow; have b3 : Below W0.heap.size W0 w3 := b2.grown hgrow b2.size (fun k h => by cases h); have ⟨zB3, cB3⟩ := B0.below b3; clear cB2)
  have hown0 := made_row (fun q => (0 : Int)) hown
  have e0 : rowF (fun q => (0 : Int)) N 0 = P1 (tmF (enN xss) xss.length) N 0 := by
    rw [P1_zero]
    apply List.ext_getElem (by rw [rowF_len _ (Nat.zero_le _), fmap_len])
    intro j h1 h2
    simp [rowF, fmap]
  rw [e0] at hown0
  have q1 := p1.kept hgrow (Classical.em _)
  have q2 := p2.kept hgrow (Classical.em _)
  rw [opL, opT_zero] at q1
  rw [cpL, clT_zero] at q2
  have hU1 := p1.lt
  have hU2 := p2.lt
  obtain ⟨g, hg⟩ : ∃ g, g = w2.heap.size := ⟨_, rfl⟩
  have hgz : W0.heap.size ≤ g := by have := b2.size; omega
  rw [← hg] at hown0 hU1 hU2 ⊢
  rw [hg] at hown0
  have hown1 : OwnI w3 W0.heap.size (.slice (some ⟨g, 0, none⟩) N N) (P1 (tmF (enN xss) xss.length) N 0) := by rw [← hg] at hown0; exact hown0
  clear hown hgrow e0 hown0 p1 p2 hg hb1 b2 zB1 zB2
  go_wp2_with fail
  have HSt : ∀ i, i ≤ xss.length → True := fun _ _ => trivial
  go_loopw [22] (fun i wr => ∃ k : Nat, k ≤ xss.length ∧ i = .int .i64 k ∧ OwnI wr W0.heap.size (.slice (some ⟨g, 0, none⟩) N N) (P1 (tmF (enN xss) xss.length) N (oP (enN xss) xss.length k)) ∧ OwnI wr W0.heap.size (.slice a1 xss.length c1) (opT (enN xss) xss.length k (oP (enN xss) xss.length k)) ∧ OwnI wr W0.heap.size (.slice a2 xss.length c2) (clT (enN xss) xss.length k 0 0) ∧ Below W0.heap.size W0 wr) (fun i _ => xss.length - (intOf i).toNat)
  case atStart => exact ⟨0, Nat.zero_le _, rfl, hown1, q1, q2, b3⟩
  case round =>
    clear hown1 q1 q2 b3 cB3 zB3
    obtain ⟨k, hk, rfl, o, o1, o2, hb⟩ := hrel
    have hbs := hb.size
    by_cases hlt : k < xss.length
    · obtain ⟨g1, ea1, hg10, hg11⟩ := o1.head (by rw [opT_len]; omega)
      obtain ⟨g2, ea2, hg20, hg21⟩ := o2.head (by rw [clT_len]; omega)
      subst ea1
      subst ea2
      have d1 := (hU1 g1 rfl).2
      have d2 := (hU2 g2 rfl).2
      have d3 : g1 ≠ g2 := fun h => hs g1 rfl (by rw [h]; rfl)
      have T0 : St3 W0 wr W0.heap.size g g1 g2 N xss.length N c1 c2 _ _ _ := ⟨o, o1, o2, P1_len _ _ _, opT_len _ _ _ _, clT_len _ _ _ _ _, by omega, by omega, d3, hgz, hg10, hg20, hb⟩
      have hx1 := hx0
      obtain ⟨b, off, a', cap', rfl, hbl0, hc0, hr0, hcp⟩ := hx1.row hlt
      have hbl : b < wr.heap.size := by omega
      have hc := (hb.cell (p := ⟨b, off + k, none⟩) hbl0).trans hc0
      have hrow := mxB_len HM.out hlt
      have HR0 := Lib.hid hr0
      have HEN := Lib.hid (fun j (hj : j < xss.length) => en_at HM.out hlt hj)
      have HNX : Hid (oP (enN xss) xss.length k + rS (enN xss) k xss.length = cP (enN xss) xss.length k) := rfl
      rw [hrow] at hc
      clear hc0 hr0 hx1 o o1 o2
      go_wp2_with fail
      go_loopw [29] (fun i wi => ∃ j : Nat, j ≤ xss.length ∧ i = .int .i64 j ∧ St3 W0 wi W0.heap.size g g1 g2 N xss.length N c1 c2 (P1 (tmF (enN xss) xss.length) N (oP (enN xss) xss.length k + rS (enN xss) k j)) (opT (enN xss) xss.length k (oP (enN xss) xss.length k + rS (enN xss) k j)) (clT (enN xss) xss.length k j 0)) (fun i _ => xss.length - (intOf i).toNat)
      case atStart => exact ⟨0, Nat.zero_le _, rfl, T0⟩
      case round =>
        clear T0 hc hb hbs hbl
        obtain ⟨j, hj, rfl, T⟩ := hrel
        by_cases hjl : j < xss.length
        · obtain ⟨b', off', rfl, hbl', hc'⟩ := (HR0.out.below T.b).cell j (by rw [hrow]; exact hjl)
          have hce := HEN.out j hjl
          rw [show nth (rowL xss k) j = atM xss k j from rfl, hce] at hc'
          have hj1 : (j : Int) < (xss.length : Int) := by omega
          have HRS : Hid (rS (enN xss) k (j+1) = rS (enN xss) k j + enN xss k j) := rfl
          have HRD : Hid (rS (enN xss) k (j+1) ≤ rS (enN xss) k xss.length) := sN_up _ (by omega)
          have HCT := Lib.hid (clT_nextj (enN xss) xss.length k j)
          have HOP : Hid (∀ t, t < enN xss k j → tmF (enN xss) xss.length (oP (enN xss) xss.length k + rS (enN xss) k j + t) = cP (enN xss) xss.length j + cS (enN xss) j k + t) := fun t ht => tm_op hlt hjl ht
          have HLT : Hid (∀ t, t < enN xss k j → _) := fun t ht => tm_lt (d := xss.length) HU.out hlt hjl ht
          have HJN : Hid (oP (enN xss) xss.length (j+1) ≤ N) := by rw [Hid, hN]; exact sN_up _ (by omega)
          obtain ⟨E, hE⟩ : ∃ E, E = enN xss k j := ⟨_, rfl⟩
          rw [← hE] at hc' HRS HCT HOP HLT
          have HEE : Hid (E ≤ 12) := by
            have := mxB_num HM.out hlt hjl
            have := HEN.out j hjl
            rw [Hid, hE]; omega
          have hE12 := HEE.out
          clear hce hE
          go_wp2_with fail
          go_loopw [9] (fun i wi => ∃ t : Nat, t ≤ E ∧ i = .int .i64 ((E : Int) - (t : Int)) ∧ St3 W0 wi W0.heap.size g g1 g2 N xss.length N c1 c2 (P1 (tmF (enN xss) xss.length) N (oP (enN xss) xss.length k + rS (enN xss) k j + t)) (opT (enN xss) xss.length k (oP (enN xss) xss.length k + rS (enN xss) k j + t)) (clT (enN xss) xss.length k j t)) (fun i _ => (intOf i).toNat)
          case atStart => exact ⟨0, Nat.zero_le _, by simp, T⟩
          case round =>
            clear T hc'
            obtain ⟨t, ht, rfl, T⟩ := hrel
            by_cases htl : t < E
            · have he := HOP.out t htl
              have ⟨l1, l2, l3⟩ := HLT.out t htl
              have l4 := HJN.out
              obtain ⟨X, hX⟩ : ∃ X, X = oP (enN xss) xss.length k + rS (enN xss) k j + t := ⟨_, rfl⟩
              obtain ⟨C, hC⟩ : ∃ C, C = cP (enN xss) xss.length j + cS (enN xss) j k + t := ⟨_, rfl⟩
              have hX1 : oP (enN xss) xss.length k + rS (enN xss) k j + (t+1) = X + 1 := by omega
              rw [← hX, ← hC] at he l1
              rw [← hC] at l2
              rw [← hX] at T
              have HX1 := Lib.hid hX1
              have HPS : Hid (((P1 (tmF (enN xss) xss.length) N X).set X (C : Int)).set C (X : Int) = P1 (tmF (enN xss) xss.length) N (X+1)) := by
                have := P1_step (F := tmF (enN xss) xss.length) (N := N) (o := X) (by rw [hN]; exact HIN.out) (by omega)
                rw [he] at this
                exact this
              have HOS : Hid ((opT (enN xss) xss.length k X).set k ((X : Int) + 1) = opT (enN xss) xss.length k (X+1)) := opT_set _ X (X+1) hlt
              have HCS : Hid ((clT (enN xss) xss.length k j t).set j ((C : Int) + 1) = clT (enN xss) xss.length k j (t+1)) := clT_set _ t (C+1) hjl (by omega)
              have v1 := opT_at (enN xss) X hlt
              have v2 : nth (clT (enN xss) xss.length k j t) j = (C : Int) := by rw [hC]; exact clT_at (enN xss) t hjl
              have hXN : X < N := by omega
              have hCN : C < N := by omega
              have HTE : Hid ((intOf (Value.int .i64 ((E : Int) - (t + 1 : Nat)))).toNat < E - t) := by rw [Hid]; simp [intOf]; omega
              clear hX hC hX1 he l1 l2 l3 l4
              obtain ⟨P, hP⟩ : ∃ P, P = P1 (tmF (enN xss) xss.length) N X := ⟨_, rfl⟩
              obtain ⟨O, hO⟩ : ∃ P, P = opT (enN xss) xss.length k X := ⟨_, rfl⟩
              obtain ⟨Q, hQ⟩ : ∃ P, P = clT (enN xss) xss.length k j t := ⟨_, rfl⟩
              rw [← hP, ← hO, ← hQ] at T
              rw [← hP] at HPS
              rw [← hO] at HOS v1
              rw [← hQ] at HCS v2
              clear hP hO hQ
              have V1 := Lib.hid v1
              have V2 := Lib.hid v2
              have ⟨s1, f1⟩ := T.at1 hlt
              have ⟨s2, f2⟩ := T.at2 hjl
              have ⟨s3, f3⟩ := T.atP hXN
              rw [V1.out] at s1
              rw [V2.out] at s2
              have hne1 := T.n1
              have hne2 := T.n2
              have HT := Lib.hid T
              have XN : (X : Int) < (N : Int) := by omega
              have CN : (C : Int) < (N : Int) := by omega
              have kl : (k : Int) < (xss.length : Int) := by omega
              have tE : (t : Int) < (E : Int) := by omega
              clear T v1 v2
              go_wp2_with fail
              go_region
              all_goals
                have T1 := HT.out.putP X (C : Int)
                first
                  | (obtain ⟨W1, e1⟩ : ∃ x : World, x = (wr.setCell ⟨g, X, none⟩ (.int .i64 (C : Int))).drew := ⟨_, rfl⟩
                     replace T1 := T1.drew
                     rw [← e1] at T1 ⊢)
                  | (obtain ⟨W1, e1⟩ : ∃ x : World, x = wr.setCell ⟨g, X, none⟩ (.int .i64 (C : Int)) := ⟨_, rfl⟩
                     rw [← e1] at T1 ⊢)
                clear e1 s1 f1 s2 f2 s3 f3
                have ⟨s1, f1⟩ := T1.at1 hlt
                have ⟨s2, f2⟩ := T1.at2 hjl
                have ⟨s3, f3⟩ := T1.atP hCN
                rw [V1.out] at s1
                rw [V2.out] at s2
                have HT1 := Lib.hid T1
                clear T1
                go_wp2_with fail
                go_region
                all_goals
                  have T2 := HT1.out.putP C (X : Int)
                  first
                    | (obtain ⟨W2, e2⟩ : ∃ x : World, x = (W1.setCell ⟨g, C, none⟩ (.int .i64 (X : Int))).drew := ⟨_, rfl⟩
                       replace T2 := T2.drew
                       rw [← e2] at T2 ⊢)
                    | (obtain ⟨W2, e2⟩ : ∃ x : World, x = W1.setCell ⟨g, C, none⟩ (.int .i64 (X : Int)) := ⟨_, rfl⟩
                       rw [← e2] at T2 ⊢)
                  rw [HPS.out] at T2
                  clear e2 s1 f1 s2 f2 s3 f3
                  have ⟨s1, f1⟩ := T2.at1 hlt
                  have ⟨s2, f2⟩ := T2.at2 hjl
                  rw [V1.out] at s1
                  rw [V2.out] at s2
                  have hne3 := T2.n3
                  have T3 := (T2.put1 k ((X : Int) + 1)).put2 j ((C : Int) + 1)
                  rw [HOS.out, HCS.out] at T3
                  have HT3 := Lib.hid T3
                  clear T2 T3
                  go_wp2_with fail
                  go_roundw
                  case rel => exact ⟨t + 1, by omega, by apply val_int; omega, by rw [HX1.out]; exact HT3.out⟩
                  case measure => simp [intOf]; omega
            · obtain rfl : t = E := by omega
              have g9 : (t : Int) - (t : Int) = 0 := by omega
              rw [g9]
              go_wp2_with fail
              go_roundw
              case rel => exact ⟨j + 1, by omega, by go_num, by rw [HRS.out, ← HCT.out, ← Nat.add_assoc]; exact T⟩
              case measure => simp [intOf]; omega
        · obtain rfl : j = xss.length := by omega
          have HROW : Hid (P1 (tmF (enN xss) xss.length) N (cP (enN xss) xss.length k) = P1 (tmF (enN xss) xss.length) N (oP (enN xss) xss.length (k+1))) := by rw [Hid, hN]; exact tm_row HU.out hlt
          have HX1 := Lib.hid (opT_next (enN xss) xss.length k)
          have HX2 := Lib.hid (clT_nexti (enN xss) xss.length k)
          rw [HNX.out] at T
          go_wp2_with fail
          go_roundw
          case rel => exact ⟨k + 1, by omega, by go_num, by rw [← HROW.out]; exact T.o, by rw [← HX1.out]; exact T.o1, by rw [← HX2.out]; exact T.o2, T.b⟩
          case measure => simp [intOf]; omega
    · obtain rfl : k = xss.length := by omega
      subst hN
      have hTN : (tmL xss).length = oP (enN xss) xss.length xss.length := by rw [HTL.out, P1_len]
      go_wp2_with fail
      go_ret
      exact ⟨some ⟨g, 0, none⟩, oP (enN xss) xss.length xss.length, by rw [hTN]; rfl, by rw [hTN, HTL.out]; exact o.mono bw0.size, bw0.trans (hb.mono bw0.size)⟩

theorem l1In_any (n lo hi : Int) (w : World) :
    Calls Try.prog 46 #[.int .i64 n, .int .i64 lo, .int .i64 hi] w fun e w' => e = .returned (.bool (inB n lo hi)) ∧ w = w' := by
  go_enter Try.func46, Try.ntmps46
  go_wp2
  all_goals (go_ret; exact ⟨ret_bool (by simp [inB]; try omega), rfl⟩)
theorem l1In_is {n lo hi : Int} {b : Bool} (h : inB n lo hi = b) (w : World) (m : Nat) :
    Calls Try.prog 46 #[.int .i64 n, .int .i64 lo, .int .i64 hi] (w.drewN m) fun e w' => e = .returned (.bool b) ∧ ∃ k, w' = w.drewN k :=
  Calls.quiet_of_same ((l1In_any n lo hi (w.drewN m)).mono (fun e w' hh => ⟨by rw [← h]; exact hh.1, hh.2.symm⟩))

theorem stGood_any (a : Option Addr) (xs : List Int) (cap : Nat) (w : World) (hx : Rd w a xs) :
    Calls Try.prog 37 #[.slice a xs.length cap] w fun e w' => e = .returned (.bool (mcB xs)) ∧ Below w.heap.size w w' := by
  have hlen := hx.len
  go_enter Try.func37, Try.ntmps37
  go_wp2_with fail
  go_loopw [7] (fun i wr => ∃ k : Nat, k ≤ xs.length ∧ i = .int .i64 k ∧ (∀ j, j < k → ptOk xs j = true) ∧ Below w.heap.size w wr) (fun i _ => xs.length - (intOf i).toNat)
  case atStart => exact ⟨0, Nat.zero_le _, rfl, fun j hj => by omega, Below.refl _ _⟩
  case round =>
    obtain ⟨k, hk, rfl, hall, hb⟩ := hrel
    have HA := Lib.hid hall
    clear hall
    by_cases hlt : k < xs.length
    · have hxr := hx.below hb
      obtain ⟨b, off, rfl, hbl, hc⟩ := hxr.cell k hlt
      cases hi : inB (nth xs k) 0 ((xs.length : Int) - 1)
      · have HO : Hid (mcB xs = false) := mcB_no hlt (by simp [ptOk, hi])
        have HI := Lib.hid hi
        clear hi
        go_wp2_with fail
        refine (l1In_any _ _ _ _).mono ?_
        rintro e w' ⟨rfl, rfl⟩
        rw [HI.out]
        go_wp2_with fail
        go_ret
        exact ⟨ret_bool HO.out.symm, hb⟩
      · have ⟨h1, h2⟩ := inB_iff.1 hi
        obtain ⟨j, hj⟩ : ∃ j : Nat, nth xs k = (j : Int) := ⟨(nth xs k).toNat, by omega⟩
        have hjl : j < xs.length := by omega
        obtain ⟨b', off', e', hbl', hc'⟩ := hxr.cell j hjl
        simp only [Option.some.injEq, Addr.mk.injEq, and_true] at e'
        obtain ⟨rfl, rfl⟩ := e'
        rw [hj] at hc hi
        have HI := Lib.hid hi
        have HJ := Lib.hid hj
        clear hi h1 h2 hj
        by_cases hjk : j = k
        · subst hjk
          have HO : Hid (mcB xs = false) := mcB_no hlt (by simp [ptOk, HJ.out])
          clear hc'
          go_wp2_with fail
          refine (l1In_any _ _ _ _).mono ?_
          rw [HI.out]
          rintro e w' ⟨rfl, rfl⟩
          go_wp2_with fail
          go_ret
          exact ⟨ret_bool HO.out.symm, hb⟩
        · have q1 : ((j : Int) == (k : Int)) = false := by simp; omega
          by_cases hp : nth xs j = (k : Int)
          · have HO : Hid (ptOk xs k = true) := by
              have := HI.out
              simp [Hid, ptOk, this, HJ.out, hp]; omega
            rw [hp] at hc'
            clear hp
            go_wp2_with fail
            refine (l1In_any _ _ _ _).mono ?_
            rw [HI.out]
            rintro e w' ⟨rfl, rfl⟩
            go_wp2_with fail
            go_roundw
            case rel =>
              refine ⟨k + 1, by omega, by go_num, fun j hj => ?_, hb⟩
              by_cases e : j = k
              · rw [e]; exact HO.out
              · exact HA.out j (by omega)
            case measure => simp [intOf]; omega
          · have HO : Hid (mcB xs = false) := mcB_no hlt (by simp [ptOk, HJ.out, hp])
            have q2 : (nth xs j != (k : Int)) = true := by simp [hp]
            clear hp
            go_wp2_with fail
            refine (l1In_any _ _ _ _).mono ?_
            rw [HI.out]
            rintro e w' ⟨rfl, rfl⟩
            go_wp2_with fail
            go_ret
            exact ⟨ret_bool HO.out.symm, hb⟩
    · obtain rfl : k = xs.length := by omega
      by_cases hl : xs.length ≤ 24
      · have HO : Hid (mcB xs = true) := mcB_iff.2 ⟨hl, HA.out⟩
        go_wp2_with fail
        go_ret
        exact ⟨ret_bool (by rw [HO.out]; simp; omega), hb⟩
      · have HO : Hid (mcB xs = false) := mcB_long (by omega)
        go_wp2_with fail
        go_ret
        exact ⟨ret_bool (by rw [HO.out]; simp; omega), hb⟩

/-- what a call hands back that makes a list -/
def GotI (w : World) (ys : List Int) (ok : Bool) (e : Ending) (w' : World) : Prop :=
  ∃ a cap, e = .returned (.tuple #[.slice a ys.length cap, .bool ok]) ∧ OwnI w' w.heap.size (.slice a ys.length cap) ys ∧ Below w.heap.size w w'
theorem gotI_no {w w' : World} {ys : List Int} {ok : Bool} (h1 : ys = []) (h2 : ok = false) (hb : Below w.heap.size w w') : GotI w ys ok (.returned (.tuple #[.slice none 0 0, .bool false])) w' :=
  ⟨none, 0, by rw [h1, h2]; rfl, by rw [h1]; exact OwnI.nil _ _, hb⟩

theorem sTidyM_any (a : Option Addr) (xs : List Int) (cap : Nat) (w : World) (hx : Rd w a xs) :
    Calls Try.prog 22 #[.slice a xs.length cap] w (GotI w (tdL xs) (mcB xs)) := by
  go_enter Try.func22, Try.ntmps22
  go_wp2_with fail
  refine (stGood_any _ _ _ _ hx).mono ?_
  rintro e w1 ⟨rfl, hb⟩
  cases hb0 : mcB xs
  · have HL : Hid (tdL xs = []) := by simp [Hid, tdL, hb0]
    have HB := Lib.hid hb0
    clear hb0
    go_wp2_with fail
    refine bodyPost_ret (v := .tuple #[.slice none 0 0, .bool false]) (by simp [results, Try.results22, go_sem]) rfl ?_
    exact gotI_no HL.out HB.out hb
  · have HL : Hid (tdL xs = tmL (mtmL xs)) := by simp [Hid, tdL, hb0]
    have HG := Lib.hid (mt_good hb0)
    have HC := Lib.hid (fun W (hr : Rd W a xs) => stMatrix_any a xs cap W hr hb0)
    have HB := Lib.hid hb0
    obtain ⟨L, hL⟩ : ∃ L, L = mtmL xs := ⟨_, rfl⟩
    rw [← hL] at HC HG HL
    clear hb0 hL
    go_wp2_with fail
    refine (HC.out _ (hx.below hb)).mono ?_
    rintro e w2 ⟨a2, c2, vl, rfl, hro, hb2⟩
    have b2 := hb.trans (hb2.mono hb.size)
    have hrc := hro.rdC
    clear hro hb2
    go_wp2_with fail
    refine (stOf_any _ _ _ _ hrc HG.out).mono ?_
    rintro e w3 ⟨a3, c3, rfl, ho3, hb3⟩
    go_wp2_with fail
    refine bodyPost_ret (v := .tuple #[.slice a3 (tmL L).length c3, .bool true]) (by simp [results, Try.results22, go_sem]) rfl ?_
    exact ⟨a3, c3, by rw [HL.out, HB.out], by rw [HL.out]; exact ho3.mono b2.size, b2.trans (hb3.mono b2.size)⟩

theorem isOpener_any (a : Option Addr) (xs : List Int) (n cap k : Nat) (w : World) (hx : Rd w a xs) (hk : k < xs.length) (hn : n = xs.length) :
    Calls Try.prog 67 #[.slice a n cap, .int .i64 (k : Int)] w fun e w' => e = .returned (.bool (opB xs k)) ∧ w = w' := by
  have hlen := hx.len
  obtain ⟨b, off, rfl, hbl, hc⟩ := hx.cell k hk
  subst hn
  have k1 : (k : Int) < (xs.length : Int) := by omega
  go_enter Try.func67, Try.ntmps67
  go_wp2_with fail
  go_ret
  exact ⟨rfl, rfl⟩
theorem isOpener_is {a : Option Addr} {xs : List Int} {n cap k : Nat} {w : World} {b : Bool} (hx : Rd w a xs) (hk : k < xs.length) (hn : n = xs.length) (hb : opB xs k = b) (m : Nat) :
    Calls Try.prog 67 #[.slice a n cap, .int .i64 (k : Int)] (w.drewN m) fun e w' => e = .returned (.bool b) ∧ ∃ k, w' = w.drewN k :=
  Calls.quiet_of_same ((isOpener_any a xs n cap k (w.drewN m) (hx.below (Joins.below_draws _ _ _)) hk hn).mono (fun e w' hh => ⟨by rw [← hb]; exact hh.1, hh.2.symm⟩))

theorem isSameRun_s (a : Option Addr) (xs : List Int) (n cap k : Nat) (l : Int) (w : World) (hx : Rd w a xs) (hk : k + 1 < xs.length) (hn : n = xs.length) (hl : l = (k : Int) + 1) :
    Calls Try.prog 66 #[.slice a n cap, .int .i64 (k : Int), .int .i64 l] w fun e w' => e = .returned (.bool (smB xs k)) ∧ w = w' := by
  obtain rfl : l = ((k + 1 : Nat) : Int) := by omega
  clear hl
  have HN := Lib.hid hn
  clear hn
  go_enter Try.func66, Try.ntmps66
  go_wp2_with fail
  refine (isOpener_any _ xs _ _ _ _ hx (by omega) HN.out).mono ?_
  rintro e w1 ⟨rfl, rfl⟩
  go_wp2_with fail
  refine (isOpener_any _ xs _ _ _ _ hx hk HN.out).mono ?_
  rintro e w1 ⟨rfl, rfl⟩
  go_wp2_with fail
  go_ret
  exact ⟨rfl, rfl⟩
theorem isSameRun_any (a : Option Addr) (xs : List Int) (n cap k : Nat) (l : Int) (w : World) (hx : Rd w a xs) (hk : k + 1 < xs.length) (hn : n = xs.length) (hl : l = (k : Int) + 1) :
    Calls Try.prog 66 #[.slice a n cap, .int .i64 (k : Int), .int .i64 l] w fun e w' => e = .returned (.bool (smB xs k)) ∧ Below w.heap.size w w' :=
  (isSameRun_s a xs n cap k l w hx hk hn hl).mono (fun e w' ⟨h1, h2⟩ => ⟨h1, by rw [h2]; exact Below.refl _ _⟩)
theorem isSameRun_is {a : Option Addr} {xs : List Int} {n cap k : Nat} {l : Int} {w : World} {b : Bool} (hx : Rd w a xs) (hk : k + 1 < xs.length) (hn : n = xs.length) (hl : l = (k : Int) + 1) (hb : smB xs k = b) (m : Nat) :
    Calls Try.prog 66 #[.slice a n cap, .int .i64 (k : Int), .int .i64 l] (w.drewN m) fun e w' => e = .returned (.bool b) ∧ ∃ k, w' = w.drewN k :=
  Calls.quiet_of_same ((isSameRun_s a xs n cap k l (w.drewN m) (hx.below (Joins.below_draws _ _ _)) hk hn hl).mono (fun e w' hh => ⟨by rw [← hb]; exact hh.1, hh.2.symm⟩))

def rnF (xs : List Int) (k : Nat) : Int := (rnN xs k : Int)
set_option maxRecDepth 100000 in
theorem runNumbers_any (a : Option Addr) (xs : List Int) (cap : Nat) (w : World) (hx : Rd w a xs) (hl : xs.length ≤ 24) :
    Calls Try.prog 41 #[.slice a xs.length cap] w fun e w' => ∃ a' cap', e = .returned (.slice a' xs.length cap') ∧ OwnI w' w.heap.size (.slice a' xs.length cap') (fmap (rnF xs) xs.length) ∧ Below w.heap.size w w' := by
  obtain ⟨i0, hi, hz0, hz1, hz2⟩ := info_parts infoInt
  go_enter Try.func41, Try.ntmps41
  go_wp2_with (at_make; refine wpList_make_full _ rfl (.tmp 6) (.tmp 6) 26 rfl w.heap.size 3 i0 (.int .i64 0) 1 Try.underlying26 hi hz0 hz1 .i64 .i64 _ _ xs.length rfl rfl rfl rfl (by rw [hz2]; omega) (by unfold maxLen; omega) (Nat.le_refl _) ?_; intro w3 hown hgrow)
  have b3 : Below w.heap.size w w3 := (Below.refl _ _).grown hgrow (Nat.le_refl _) (fun k h => by cases h)
  have hown0 := made_row (rnF xs) hown
  have e0 : rowF (rnF xs) xs.length 0 = rowF (rnF xs) xs.length (min 1 xs.length) := by
    by_cases h : xs.length = 0
    · rw [h]; rfl
    · rw [show min 1 xs.length = 0 + 1 by omega, ← rowF_set _ (by omega)]
      exact (rowF_zero _ (by omega)).symm
  rw [e0] at hown0
  obtain ⟨g, hg⟩ : ∃ g, g = w.heap.size := ⟨_, rfl⟩
  have hgz : w.heap.size ≤ g := by omega
  rw [← hg] at hown0
  have hown1 : OwnI w3 w.heap.size (.slice (some ⟨g, 0, none⟩) xs.length xs.length) (rowF (rnF xs) xs.length (min 1 xs.length)) := by rw [hg] at hown0 ⊢; exact hown0
  have HG := Lib.hid hg
  rw [← hg]
  clear hown hgrow e0 hown0 hg
  go_wp2_with fail
  go_loopw [11] (fun i wr => ∃ k : Nat, k ≤ xs.length - 1 ∧ i = .int .i64 k ∧ OwnI wr w.heap.size (.slice (some ⟨g, 0, none⟩) xs.length xs.length) (rowF (rnF xs) xs.length (min (k+1) xs.length)) ∧ Below w.heap.size w wr) (fun i _ => xs.length - (intOf i).toNat)
  case atStart => exact ⟨0, Nat.zero_le _, rfl, hown1, b3⟩
  case round =>
    clear b3 hown1
    obtain ⟨k, hk, rfl, hown, hb⟩ := hrel
    have hbs := hb.size
    have hrl := rnN_le xs k
    by_cases hlt : k + 1 < xs.length
    · have e1 : min (k+1) xs.length = k + 1 := by omega
      have e2 : min (k+1+1) xs.length = k + 1 + 1 := by omega
      rw [e1] at hown
      have hl0 : (rowF (rnF xs) xs.length (k+1)).length = xs.length := rowF_len _ (by omega)
      have hvk : nth (rowF (rnF xs) xs.length (k+1)) k = rnF xs k := by
        simp only [nth, rowF, List.getD_eq_getElem?_getD]; rw [List.getElem?_append_left (by rw [fmap_len]; omega)]; simp [fmap]
      have ⟨c0, f0⟩ := hown.at' hl0.symm (i := k) (by omega)
      have ⟨c1, f1⟩ := hown.at' hl0.symm (i := k+1) (by omega)
      rw [hvk] at c0
      have o1 := (hown.put hl0.symm (k+1) (rnF xs k)).1
      have hset : ∀ v, ((rowF (rnF xs) xs.length (k+1)).set (k+1) (rnF xs k)).set (k+1) v = (rowF (rnF xs) xs.length (k+1)).set (k+1) v := fun v => List.set_set ..
      have hb1 := hb.setCell (p := ⟨g, k+1, none⟩) hgz (.int .i64 (rnF xs k))
      have hl1 : ((rowF (rnF xs) xs.length (k+1)).set (k+1) (rnF xs k)).length = xs.length := by rw [List.length_set]; exact hl0
      have ⟨c2, f2⟩ := o1.at' hl1.symm (i := k+1) (by omega)
      have hv2 : nth ((rowF (rnF xs) xs.length (k+1)).set (k+1) (rnF xs k)) (k+1) = rnF xs k := by rw [nth_set (by omega), if_pos rfl]
      rw [hv2] at c2
      have o2 := (o1.put hl1.symm (k+1) (rnF xs k + 1)).1
      rw [hset] at o2
      have HR : Hid (0 ≤ rnF xs k ∧ rnF xs k ≤ 24) := by rw [Hid, rnF]; omega
      have HE2 := Lib.hid e2
      have HO := Lib.hid (And.intro o1 hb1)
      have HO2 := Lib.hid (And.intro o2 (hb1.setCell (p := ⟨g, k+1, none⟩) hgz (.int .i64 (rnF xs k + 1))))
      have hxr := hx.below hb1
      have HSET := Lib.hid (rowF_set (rnF xs) (m := xs.length) (k := k+1) hlt)
      have HSM := fun W (hr : Rd W a xs) => isSameRun_s a xs xs.length cap k ((k : Int) + 1) W hr hlt rfl rfl
      have HSAME : smB xs k = true → rnF xs (k+1) = rnF xs k := fun h => by simp [rnF, rnN, h]
      have HDIFF : smB xs k = false → rnF xs (k+1) = rnF xs k + 1 := fun h => by simp [rnF, rnN, h]
      have k1 : (k : Int) < (xs.length : Int) - 1 := by omega
      have k2 : (k : Int) + 1 < (xs.length : Int) := by omega
      have ⟨r0, r1⟩ := HR.out
      have f2' := f2
      obtain ⟨f1', hf1'⟩ : ∃ r, r = rnF xs (k+1) := ⟨_, rfl⟩
      rw [← hf1'] at HSET HSAME HDIFF
      obtain ⟨r, hr⟩ : ∃ r, r = rnF xs k := ⟨_, rfl⟩
      rw [← hr] at c0 r0 r1 HO HO2 HSAME HDIFF c2 hxr
      cases h1 : smB xs k
      · have HN := Lib.hid (HDIFF h1)
        rw [h1] at HSM
        have HS := Lib.hid HSM
        clear o1 o2 hl1 hv2 hset hvk hl0 e1 e2 hown HR HSM HSAME HDIFF hr h1 hf1' hb1
        go_wp2_with fail
        refine (HS.out _ hxr).mono ?_
        rintro e w2 ⟨rfl, rfl⟩
        go_wp2_with fail
        go_roundw
        case rel => exact ⟨k + 1, by omega, by go_num, by rw [HE2.out, ← HSET.out, HN.out]; exact HO2.out.1, HO2.out.2⟩
        case measure => simp [intOf]; omega
      · have HN := Lib.hid (HSAME h1)
        rw [h1] at HSM
        have HS := Lib.hid HSM
        clear o1 o2 hl1 hv2 hset hvk hl0 e1 e2 hown HR HSM HSAME HDIFF hr h1 hf1' hb1
        go_wp2_with fail
        refine (HS.out _ hxr).mono ?_
        rintro e w2 ⟨rfl, rfl⟩
        go_wp2_with fail
        go_roundw
        case rel => exact ⟨k + 1, by omega, by go_num, by rw [HE2.out, ← HSET.out, HN.out]; exact HO.out.1, HO.out.2⟩
        case measure => simp [intOf]; omega
    · obtain rfl : k = xs.length - 1 := by omega
      have k1 : ¬ ((xs.length - 1 : Nat) : Int) < (xs.length : Int) - 1 := by omega
      have e1 : min (xs.length - 1 + 1) xs.length = xs.length := by omega
      rw [e1, rowF_end] at hown
      go_wp2_with fail
      go_ret
      exact ⟨_, _, rfl, hown, hb⟩

theorem iIsMatching_any (a : Option Addr) (xs : List Int) (cap : Nat) (w : World) (hx : Rd w a xs) :
    Calls Try.prog 65 #[.slice a xs.length cap] w fun e w' => e = .returned (.bool (mcB xs)) ∧ Below w.heap.size w w' := by
  have hlen := hx.len
  by_cases hl : xs.length ≤ 24
  · go_enter Try.func65, Try.ntmps65
    go_wp2_with fail
    go_loopw [10] (fun i wr => ∃ k : Nat, k ≤ xs.length ∧ i = .int .i64 k ∧ (∀ j, j < k → ptOk xs j = true) ∧ Below w.heap.size w wr) (fun i _ => xs.length - (intOf i).toNat)
    case atStart => exact ⟨0, Nat.zero_le _, rfl, fun j hj => by omega, Below.refl _ _⟩
    case round =>
      obtain ⟨k, hk, rfl, hall, hb⟩ := hrel
      have HA := Lib.hid hall
      clear hall
      by_cases hlt : k < xs.length
      · have hxr := hx.below hb
        obtain ⟨b, off, rfl, hbl, hc⟩ := hxr.cell k hlt
        by_cases h1 : nth xs k < 0
        · have HO : Hid (mcB xs = false) := mcB_no hlt (by have : inB (nth xs k) 0 ((xs.length : Int) - 1) = false := inB_no.2 (.inl h1); simp [ptOk, this])
          go_wp2_with fail
          go_ret
          exact ⟨ret_bool HO.out.symm, hb⟩
        · by_cases h2 : (xs.length : Int) ≤ nth xs k
          · have HO : Hid (mcB xs = false) := mcB_no hlt (by have : inB (nth xs k) 0 ((xs.length : Int) - 1) = false := inB_no.2 (.inr (by omega)); simp [ptOk, this])
            go_wp2_with fail
            go_ret
            exact ⟨ret_bool HO.out.symm, hb⟩
          · have HI : Hid (inB (nth xs k) 0 ((xs.length : Int) - 1) = true) := inB_iff.2 ⟨by omega, by omega⟩
            obtain ⟨j, hj⟩ : ∃ j : Nat, nth xs k = (j : Int) := ⟨(nth xs k).toNat, by omega⟩
            have hjl : j < xs.length := by omega
            obtain ⟨b', off', e', hbl', hc'⟩ := hxr.cell j hjl
            simp only [Option.some.injEq, Addr.mk.injEq, and_true] at e'
            obtain ⟨rfl, rfl⟩ := e'
            rw [hj] at hc
            have HJ := Lib.hid hj
            rw [hj] at HI
            clear h1 h2 hj
            by_cases hjk : j = k
            · subst hjk
              have HO : Hid (mcB xs = false) := mcB_no hlt (by simp [ptOk, HJ.out])
              clear hc'
              go_wp2_with fail
              go_ret
              exact ⟨ret_bool HO.out.symm, hb⟩
            · have q1 : ((j : Int) == (k : Int)) = false := by simp; omega
              by_cases hp : nth xs j = (k : Int)
              · have HO : Hid (ptOk xs k = true) := by
                  have := HI.out
                  simp [Hid, ptOk, this, HJ.out, hp]; omega
                rw [hp] at hc'
                clear hp
                go_wp2_with fail
                go_roundw
                case rel =>
                  refine ⟨k + 1, by omega, by go_num, fun j hj => ?_, hb⟩
                  by_cases e : j = k
                  · rw [e]; exact HO.out
                  · exact HA.out j (by omega)
                case measure => simp [intOf]; omega
              · have HO : Hid (mcB xs = false) := mcB_no hlt (by simp [ptOk, HJ.out, hp])
                have q2 : (nth xs j != (k : Int)) = true := by simp [hp]
                clear hp
                go_wp2_with fail
                go_ret
                exact ⟨ret_bool HO.out.symm, hb⟩
      · obtain rfl : k = xs.length := by omega
        have HO : Hid (mcB xs = true) := mcB_iff.2 ⟨hl, HA.out⟩
        go_wp2_with fail
        go_ret
        exact ⟨ret_bool HO.out.symm, hb⟩
  · have HO := Lib.hid (mcB_long (xs := xs) (by omega))
    go_enter Try.func65, Try.ntmps65
    go_wp2_with fail
    go_ret
    exact ⟨ret_bool HO.out.symm, Below.refl _ _⟩

set_option maxRecDepth 100000 in
theorem iRuns_any (a : Option Addr) (xs : List Int) (cap : Nat) (w : World) (hx : Rd w a xs) :
    Calls Try.prog 39 #[.slice a xs.length cap] w (GotI w (rlL xs) (mcB xs)) := by
  have hlen := hx.len
  go_enter Try.func39, Try.ntmps39
  go_wp2_with fail
  refine (iIsMatching_any _ _ _ _ hx).mono ?_
  rintro e w1 ⟨rfl, hb1⟩
  cases hb0 : mcB xs
  · have HL : Hid (rlL xs = []) := by simp [Hid, rlL, hb0]
    have HB := Lib.hid hb0
    clear hb0
    go_wp2_with fail
    refine bodyPost_ret (v := .tuple #[.slice none 0 0, .bool false]) (by simp [results, Try.results39, go_sem]) rfl ?_
    exact gotI_no HL.out HB.out hb1
  · have HL : Hid (rlL xs = rlTo xs xs.length) := by simp [Hid, rlL, hb0]
    have h24 := mcB_len hb0
    have HB := Lib.hid hb0
    clear hb0
    go_wp2_with fail
    refine (runNumbers_any _ _ _ _ (hx.below hb1) h24).mono ?_
    rintro e w2 ⟨a2, c2, rfl, ho2, hb2⟩
    have bw2 := hb1.trans (hb2.mono hb1.size)
    have hr2 := ho2.rd
    have hz2 := bw2.size
    clear ho2 hb2 hb1
    go_wp2_with fail
    go_loopw [4, 13] (fun v i wr => ∃ k : Nat, k ≤ xs.length ∧ i = .int .i64 k ∧ OwnI wr w2.heap.size v (rlTo xs k) ∧ Below w2.heap.size w2 wr) (fun _ i _ => xs.length - (intOf i).toNat)
    case atStart => exact ⟨0, Nat.zero_le _, rfl, OwnI.nil _ _, Below.refl _ _⟩
    case round =>
      obtain ⟨k, hk, rfl, hown, hb⟩ := hrel
      have hnl := rlTo_le xs k
      have hbs := hb.size
      by_cases hlt : k < xs.length
      · have hf : (fmap (rnF xs) xs.length).length = xs.length := fmap_len _ _
        obtain ⟨b, off, rfl, hbl, hc⟩ := (hr2.below hb).cell k (by omega)
        rw [fmap_nth _ hlt, rnF] at hc
        have HS : Hid (rlTo xs (k+1) = if rlB xs k then (rlTo xs k).set ((rlTo xs k).length - 1) (nth (rlTo xs k) ((rlTo xs k).length - 1) + 1) else rlTo xs k ++ [1]) := rfl
        have HVl := Lib.hid (rlTo_val xs k)
        have HLN : Hid (0 < k → (rlTo xs k).length = rnN xs (k-1) + 1) := fun h => by
          obtain ⟨j, rfl⟩ : ∃ j, k = j + 1 := ⟨k - 1, by omega⟩
          exact rlTo_len xs j
        have HRN : Hid (rlB xs k = true → rnN xs k = (rlTo xs k).length - 1 ∧ 0 < (rlTo xs k).length) := fun h => by
          simp only [rlB, Bool.and_eq_true, decide_eq_true_eq] at h
          obtain ⟨j, rfl⟩ : ∃ j, k = j + 1 := ⟨k - 1, by omega⟩
          rw [rlTo_len, rnN, if_pos (by simpa using h.2)]
          exact ⟨by omega, by omega⟩
        have HRM : Hid (rlB xs k = false → rnN xs k = (rlTo xs k).length) := fun h => by
          by_cases h0 : k = 0
          · subst h0; rfl
          · obtain ⟨j, rfl⟩ : ∃ j, k = j + 1 := ⟨k - 1, by omega⟩
            simp only [rlB, Nat.add_sub_cancel, show decide (0 < j + 1) = true by simp, Bool.true_and] at h
            rw [rlTo_len, rnN, if_neg (by simp [h])]
        obtain ⟨ys, hys⟩ : ∃ ys, ys = rlTo xs k := ⟨_, rfl⟩
        rw [← hys] at hown hnl HS HVl HLN HRN HRM
        clear hys
        obtain ⟨ya, yc, rfl⟩ := hown.form
        cases h1 : rlB xs k
        · have e := HRM.out h1
          rw [e] at hc
          have HN : Hid (rlTo xs (k+1) = ys ++ [1]) := by rw [Hid, HS.out, h1]; rfl
          clear e h1
          go_wp2_with (at_builtin; refine push_at rfl _ _ rfl (z := 0) rfl hown rfl (by omega) hbs ?_; intro v3 w3 o3 hg _; have b3 := hb.trans (below_of_grown hg (fun c e => (hown.lt c e).1) hbs); obtain ⟨g7, c7, rfl, h70, h71, c70, f70, p7⟩ := own_snoc o3; clear hg hown)
          go_roundw
          case rel => exact ⟨k + 1, by omega, by go_num, by rw [HN.out]; exact p7 _, by exact b3.setCell (p := ⟨g7, _, none⟩) h70 _⟩
          case measure => simp [intOf]; omega
        · have ⟨e, hp⟩ := HRN.out h1
          rw [e] at hc
          have HN : Hid (rlTo xs (k+1) = ys.set (ys.length - 1) (nth ys (ys.length - 1) + 1)) := by rw [Hid, HS.out, h1]; rfl
          obtain ⟨g, rfl, hg0, hg1⟩ := hown.head hp
          have ⟨cj, fj⟩ := hown.at' rfl (i := ys.length - 1) (by omega)
          have HPut := Lib.hid (hown.put rfl (ys.length - 1) (nth ys (ys.length - 1) + 1)).1
          have q1 : (((ys.length - 1 : Nat) : Int) == (ys.length : Int)) = false := by simp; omega
          have hv := HVl.out (ys.length - 1) (by omega)
          obtain ⟨v, hv'⟩ : ∃ v, v = nth ys (ys.length - 1) := ⟨_, rfl⟩
          obtain ⟨l, hl'⟩ : ∃ l, l = ys.length - 1 := ⟨_, rfl⟩
          have hl2 : (l : Int) < (ys.length : Int) := by omega
          rw [← hv'] at cj HPut hv HN
          rw [← hl'] at cj fj HPut q1 hc HN
          have HP2 := Lib.hid hp
          clear e h1 hv' hl' hp
          go_wp2_with fail
          go_roundw
          case rel => exact ⟨k + 1, by omega, by go_num, by rw [HN.out]; exact HPut.out, by exact hb.setCell (p := ⟨g, _, none⟩) hg0 _⟩
          case measure => simp [intOf]; omega
      · obtain rfl : k = xs.length := by omega
        obtain ⟨a', cap', rfl⟩ := hown.form
        go_wp2_with fail
        refine bodyPost_ret (v := .tuple #[.slice a' (rlTo xs xs.length).length cap', .bool true]) (by simp [results, Try.results39, go_sem]) rfl ?_
        exact ⟨a', cap', by rw [HL.out, HB.out], by rw [HL.out]; exact hown.mono hz2, bw2.trans (hb.mono hz2)⟩

theorem infoIntS : (Try.prog.info? 26).map (fun i => (i.zero, i.size, i.bytes)) = some (some (.slice none 0 0), 1, 24) := by kernel_rfl
theorem sset_step (vl : List Value) (n k : Nat) (v z : Value) (hk : vl.length = k) (h : k < n) :
    (vl ++ List.replicate (n - k) z).set k v = (vl ++ [v]) ++ List.replicate (n - (k+1)) z := by
  rw [List.set_append_right _ _ (by omega), hk, Nat.sub_self, List.append_assoc]
  congr 1
  rw [show n - k = (n - (k+1)) + 1 by omega, List.replicate_succ, List.set_cons_zero]
  rfl
theorem valAt_app {vl : List Value} {v : Value} {k : Nat} (h : k < vl.length) : valAt (vl ++ [v]) k = valAt vl k := by
  simp [valAt, List.getElem?_append, h]
theorem valAt_last (vl : List Value) (v : Value) : valAt (vl ++ [v]) vl.length = v := by
  simp [valAt]
theorem toIntSS_any (a : Option Addr) (xss : List (List Int)) (cap : Nat) (w : World) (hx : RdS w a xss) (hn : xss.length + totS xss xss.length ≤ 1048576) :
    Calls Try.prog 33 #[.slice a xss.length cap] w fun e w' => ∃ g cap' vl, e = .returned (.slice (some ⟨g, 0, none⟩) xss.length cap') ∧ OwnS w' w.heap.size g vl xss ∧ Below w.heap.size w w' := by
  obtain ⟨i0, hi, hz0, hz1, hz2⟩ := info_parts infoIntS
  have hlen := hx.len
  go_enter Try.func33, Try.ntmps33
  go_wp2_with (at_make; refine wpList_make_full _ rfl (.tmp 6) (.tmp 6) 22 rfl w.heap.size 26 i0 (.slice none 0 0) 1 Try.underlying22 hi hz0 hz1 .i64 .i64 _ _ xss.length rfl rfl rfl rfl (by rw [hz2]; omega) (by unfold maxLen; omega) (Nat.le_refl _) ?_; intro w1 hown hgrow)
  have hb0 : Below w.heap.size w w1 := (Below.refl _ _).grown hgrow (Nat.le_refl _) (fun k h => by cases h)
  have hown0 : w1.ownsRow w.heap.size 26 1 (.slice (some ⟨w.heap.size, 0, none⟩) xss.length xss.length) xss.length ([] ++ List.replicate (xss.length - 0) (.slice none 0 0)) := by
    simpa [Value.cells, toList_madeCells_one] using hown
  clear hown hgrow
  have hz : w.heap.size < w1.heap.size := by
    have := (World.ownsRow.lt hown0 w.heap.size rfl).2
    omega
  go_loopw [4] (fun i wr => ∃ (k : Nat) (vl : List Value), k ≤ xss.length ∧ i = .int .i64 k ∧ vl.length = k ∧ wr.ownsRow w.heap.size 26 1 (.slice (some ⟨w.heap.size, 0, none⟩) xss.length xss.length) xss.length (vl ++ List.replicate (xss.length - k) (.slice none 0 0)) ∧ (∀ j, j < k → OwnI wr (w.heap.size + 1) (valAt vl j) (rowL xss j)) ∧ (∀ j i, j < i → i < k → ∀ c d, (valAt vl j).ownBlock = some c → (valAt vl i).ownBlock = some d → c < d) ∧ Below w.heap.size w wr ∧ w.heap.size < wr.heap.size) (fun i _ => xss.length - (intOf i).toNat)
  case atStart => exact ⟨0, [], Nat.zero_le _, rfl, rfl, hown0, fun j hj => by omega, fun j i _ hi => by omega, hb0, hz⟩
  case round =>
    obtain ⟨k, vl, hk, rfl, hvl, hown, hrow, hap, hb, hzr⟩ := hrel
    have HVL := Lib.hid hvl
    have HROW := Lib.hid hrow
    have HAP := Lib.hid hap
    clear hvl hrow hap
    by_cases hlt : k < xss.length
    · obtain ⟨b, off, a', cap', rfl, hbl, hc1, hr⟩ := (hx.below hb).row k hlt
      have hrt := row_tot (xss := xss) hlt
      have k1 : (k : Int) < (xss.length : Int) := by omega
      have hro : (rowL xss k).length ≤ 1048576 := by omega
      go_wp2_with fail
      refine (toIntS_any _ _ _ _ hr hro).mono ?_
      rintro e w2 ⟨a2, cap2, rfl, ho2, hb2⟩
      have hown2 := ownsRow_bel hown hb2 (Nat.le_refl _)
      have hst := World.ownsRow.stored hown2 k (.slice a2 (rowL xss k).length cap2)
      rw [sset_step vl xss.length k _ _ HVL.out hlt] at hst
      have hcc := World.ownsRow.cellAt hown2 k (by omega)
      have hfr := World.ownsRow.frozenAt hown2 k
      have hcc' : ∃ u, w2.cell? ⟨w.heap.size, k, none⟩ = some u := by
        rw [hcc]
        exact ⟨_, List.getElem?_eq_getElem (by simp [HVL.out]; omega)⟩
      obtain ⟨u, hu⟩ := hcc'
      have Hst := Lib.hid hst
      have bw2 := hb.trans (hb2.mono hb.size)
      have hz2' := hb2.size
      clear hst hcc hown hown2 hc1
      go_wp2_with fail
      go_roundw
      case rel =>
        refine ⟨k + 1, vl ++ [.slice a2 (rowL xss k).length cap2], by omega, by go_num, by simp [HVL.out], Hst.out.1, fun j hj => ?_, fun j i hji hi c d hc hd => ?_, bw2.setCell (Nat.le_refl _) _, by simp; omega⟩
        · by_cases e : j = k
          · subst e
            have hva := valAt_last vl (.slice a2 (rowL xss j).length cap2)
            rw [HVL.out] at hva
            rw [hva]
            exact (ho2.mono (B' := w.heap.size + 1) (by omega)).setBelow (show w.heap.size < w.heap.size + 1 by omega) _
          · rw [valAt_app (by rw [HVL.out]; omega)]
            exact ((HROW.out j (by omega)).below hb2 (Nat.le_refl _)).setBelow (show w.heap.size < w.heap.size + 1 by omega) _
        · rw [valAt_app (by rw [HVL.out]; omega)] at hc
          by_cases e : i = k
          · subst e
            have hva := valAt_last vl (.slice a2 (rowL xss i).length cap2)
            rw [HVL.out] at hva
            rw [hva] at hd
            have h1 := (HROW.out j (by omega)).lt c hc
            have h2 := ho2.lt d hd
            omega
          · rw [valAt_app (by rw [HVL.out]; omega)] at hd
            exact HAP.out j i hji (by omega) c d hc hd
      case measure => simp [intOf]; omega
    · obtain rfl : k = xss.length := by omega
      go_wp2_with fail
      go_ret
      refine ⟨w.heap.size, xss.length, vl, rfl, ⟨Nat.le_refl _, hzr, hlen, fun j hj => ?_, HROW.out, HAP.out⟩, hb⟩
      rw [World.ownsRow.cellAt hown j (by omega)]
      simp [valAt, List.getElem?_append, HVL.out, hj]

theorem below_grown_none {w w' : World} {B : Nat} (h : w.grownBy w' none) (hB : B ≤ w.heap.size) : Below B w w' :=
  below_of_grown (v := .slice none 0 0) h (fun b e => by simp [Value.ownBlock] at e) hB

/-- a new row has been put into rows that have been made -/
theorem RowsP.putRow {w : World} {B : Nat} {v u : Value} {vl : List Value} {xss : List (List Int)} {r : List Int} (h : RowsP w B v vl xss) {k : Nat} (hk : k < xss.length) (hu : OwnI w B u r) (hne : ∀ c, u.ownBlock = some c → v.ownBlock ≠ some c ∧ ∀ j, j < xss.length → j ≠ k → (valAt vl j).ownBlock ≠ some c) :
    ∃ g c, v = .slice (some ⟨g, 0, none⟩) xss.length c ∧ B ≤ g ∧ g < w.heap.size ∧ (∃ z, w.cell? ⟨g, k, none⟩ = some z) ∧ w.frozen? ⟨g, k, none⟩ = false ∧ RowsP (w.setCell ⟨g, k, none⟩ u) B v (vl.set k u) (xss.set k r) := by
  have hl := h.o.vlen
  rcases h.o.own.2 with ⟨e, h0⟩ | ⟨g, cap3, cur, e, hb, hg, _⟩
  · omega
  · subst e
    have h1 := World.ownsRow.cellAt h.o.own k (by omega)
    have hgr := grown_set w ⟨g, k, none⟩ u
    have hval : ∀ j, valAt (vl.set k u) j = if j = k then u else valAt vl j := by
      intro j
      simp only [valAt, List.getD_eq_getElem?_getD, List.getElem?_set]
      by_cases e : k = j
      · subst e; simp [show k < vl.length by omega]
      · simp [e, Ne.symm e]
    have hrow : ∀ j, j < xss.length → rowL (xss.set k r) j = if j = k then r else rowL xss j := by
      intro j hj
      simp only [rowL, List.getD_eq_getElem?_getD, List.getElem?_set]
      by_cases e : k = j
      · subst e; simp [hk]
      · simp [e, Ne.symm e]
    refine ⟨g, cap3, rfl, hb, (Array.getElem?_eq_some_iff.1 hg).1, ⟨_, by rw [h1, valAt_get (by omega)]⟩, World.ownsRow.frozenAt h.o.own k, ⟨⟨?_, fun j hj => ?_, fun j hj c hc => ?_⟩, fun i j hij hj c hc => ?_⟩⟩
    · rw [List.length_set]
      exact (World.ownsRow.stored h.o.own k u).1
    · rw [List.length_set] at hj
      rw [hval, hrow j hj]
      by_cases e : j = k
      · rw [if_pos e, if_pos e]
        exact hu.kept hgr (own_nb (fun c h1 h2 => (hne c h1).1 (by rw [h2]; rfl)))
      · rw [if_neg e, if_neg e]
        exact (h.o.row j hj).kept hgr (own_nb (fun c h1 h2 => h.o.apart j hj c h1 (by rw [h2]; rfl)))
    · rw [List.length_set] at hj
      rw [hval] at hc
      by_cases e : j = k
      · rw [if_pos e] at hc; exact (hne c hc).1
      · rw [if_neg e] at hc; exact h.o.apart j hj c hc
    · rw [List.length_set] at hj
      rw [hval] at hc ⊢
      by_cases e : j = k
      · rw [if_pos e]
        rw [if_neg (by omega)] at hc
        intro h2
        exact (hne c h2).2 i (by omega) (by omega) hc
      · rw [if_neg e]
        by_cases e2 : i = k
        · rw [if_pos e2] at hc
          exact (hne c hc).2 j hj e
        · rw [if_neg e2] at hc
          exact h.pair i j hij hj c hc
theorem infoRow0 : (Try.prog.info? 26).map (fun i => (i.zero, i.size, i.bytes)) = some (some (.slice none 0 0), 1, 24) := by kernel_rfl
/-- the rows of nil that a make has made -/
theorem RowsP.made {w : World} {B n : Nat} {g : Nat} (h : w.ownsRow B 26 1 (.slice (some ⟨g, 0, none⟩) n n) n (List.replicate n (.slice none 0 0))) : RowsP w B (.slice (some ⟨g, 0, none⟩) n n) (List.replicate n (.slice none 0 0)) (List.replicate n []) := by
  have hv : ∀ k, k < n → valAt (List.replicate n (.slice none 0 0)) k = .slice none 0 0 := fun k hk => by simp [valAt, List.getD_eq_getElem?_getD, hk]
  refine ⟨⟨by rw [List.length_replicate]; exact h, fun k hk => ?_, fun k hk c hc => ?_⟩, fun j k hjk hk c hc => ?_⟩
  · rw [List.length_replicate] at hk
    rw [hv k hk]
    have : rowL (List.replicate n []) k = [] := by simp [rowL, hk]
    rw [this]
    exact OwnI.nil _ _
  · rw [List.length_replicate] at hk
    rw [hv k hk] at hc
    cases hc
  · rw [List.length_replicate] at hk
    rw [hv j (by omega)] at hc
    cases hc
/-- k rows of zeros, and rows of nil behind them -/
def zTo (n k : Nat) : List (List Int) := (List.range n).map fun i => if i < k then List.replicate n 0 else []
theorem zTo_len (n k : Nat) : (zTo n k).length = n := by simp [zTo]
theorem zTo_row {n k i : Nat} (h : i < n) : rowL (zTo n k) i = if i < k then List.replicate n 0 else [] := by simp [zTo, rowL, h]
theorem zTo_zero (n : Nat) : zTo n 0 = List.replicate n [] := by
  refine rows_ext (by simp [zTo]) (fun i hi => ?_)
  rw [zTo_len] at hi
  rw [zTo_row hi]
  simp [rowL, hi]
theorem zTo_end (n : Nat) : zTo n n = sqM (fun _ _ => 0) n n := by
  refine rows_ext (by rw [zTo_len, sqM_len]) (fun i hi => ?_)
  rw [zTo_len] at hi
  rw [zTo_row hi, sqM_row hi, if_pos hi]
  apply List.ext_getElem?
  intro j
  by_cases h : j < n <;> simp [fmap, h]
theorem zTo_step {n k : Nat} (h : k < n) : (zTo n k).set k (List.replicate n 0) = zTo n (k+1) := by
  refine rows_ext (by simp [zTo]) (fun i hi => ?_)
  rw [List.length_set, zTo_len] at hi
  rw [zTo_row hi]
  have : rowL ((zTo n k).set k (List.replicate n 0)) i = if i = k then List.replicate n 0 else rowL (zTo n k) i := by
    simp only [rowL, List.getD_eq_getElem?_getD, List.getElem?_set]
    by_cases e : k = i
    · subst e; simp [zTo_len, h]
    · simp [e, Ne.symm e]
  rw [this, zTo_row hi]
  by_cases e : i = k
  · rw [if_pos e, if_pos (by omega)]
  · rw [if_neg e]
    by_cases e2 : i < k
    · rw [if_pos e2, if_pos (by omega)]
    · rw [if_neg e2, if_neg (by omega)]
set_option maxRecDepth 100000 in
theorem zeroRows_any (n : Nat) (w : World) (hn : n ≤ 12) :
    Calls Try.prog 40 #[.int .i64 (n : Int)] w fun e w' => ∃ g vl, e = .returned (.slice (some ⟨g, 0, none⟩) n n) ∧ RowsP w' w.heap.size (.slice (some ⟨g, 0, none⟩) n n) vl (sqM (fun _ _ => 0) n n) ∧ Below w.heap.size w w' := by
  obtain ⟨i0, hi, hz0, hz1, hz2⟩ := info_parts infoInt
  obtain ⟨j0, hj0, hy0, hy1, hy2⟩ := info_parts infoRow0
  go_enter Try.func40, Try.ntmps40
  go_wp2_with (at_make; refine wpList_make_full _ rfl (.tmp 5) (.tmp 5) 22 rfl w.heap.size 26 j0 (.slice none 0 0) 1 Try.underlying22 hj0 hy0 hy1 .i64 .i64 _ _ n rfl rfl rfl rfl (by rw [hy2]; omega) (by unfold maxLen; omega) (Nat.le_refl _) ?_; intro w1 hown hgrow)
  have hb0 : Below w.heap.size w w1 := (Below.refl _ _).grown hgrow (Nat.le_refl _) (fun k h => by cases h)
  have hro : RowsP w1 w.heap.size (.slice (some ⟨w.heap.size, 0, none⟩) n n) (List.replicate n (.slice none 0 0)) (zTo n 0) := by
    rw [zTo_zero]
    exact RowsP.made (by simpa [Value.cells, toList_madeCells_one] using hown)
  clear hown hgrow
  obtain ⟨G, hG⟩ : ∃ G, G = w.heap.size := ⟨_, rfl⟩
  have HG := Lib.hid hG
  rw [← hG] at hro ⊢
  have hGG : w.heap.size ≤ G := by omega
  have hb0' : Below w.heap.size w w1 := hb0
  clear hG hb0
  have HRO := Lib.hid hro
  have hzs := (by have := hb0'.size; omega : w.heap.size ≤ w1.heap.size)
  clear hro
  go_wp2_with fail
  go_loopw [9] (fun i wr => ∃ (k : Nat) (vl : List Value), k ≤ n ∧ i = .int .i64 k ∧ RowsP wr w.heap.size (.slice (some ⟨G, 0, none⟩) n n) vl (zTo n k) ∧ Below w.heap.size w wr) (fun i _ => n - (intOf i).toNat)
  case atStart => exact ⟨0, _, Nat.zero_le _, rfl, by rw [← HG.out]; exact HRO.out, hb0'⟩
  case round =>
    obtain ⟨k, vl, hk, rfl, hro, hb⟩ := hrel
    have hbs := hb.size
    have HR := Lib.hid hro
    by_cases hlt : k < n
    · obtain ⟨W1, hW1⟩ : ∃ x : World, x = wr := ⟨_, rfl⟩
      subst hW1
      have k1 : (k : Int) < (n : Int) := by omega
      clear hro
      go_wp2_with (
        at_make
        refine wpList_make_full _ rfl (.tmp 14) (.tmp 14) 26 rfl W1.heap.size 3 i0 (.int .i64 0) 1 Try.underlying26 hi hz0 hz1 .i64 .i64 _ _ n rfl rfl rfl rfl (by rw [hz2]; omega) (by unfold maxLen; omega) (Nat.le_refl _) ?_
        intro w2 hown2 hgrow2
        have b2 : Below W1.heap.size W1 w2 := (Below.refl _ _).grown hgrow2 (Nat.le_refl _) (fun k h => by cases h)
        have o2 : OwnI w2 W1.heap.size (.slice (some ⟨W1.heap.size, 0, none⟩) n n) (List.replicate n 0) := by
          have h := made_row (fun _ => 0) hown2
          simpa [rowF, fmap] using h
        have hro2 := HR.out.below b2 (Nat.le_refl _)
        have hbk := HR.out.blk
        obtain ⟨g9, c9, e9, hg1, hg2, ⟨z9, hz9⟩, hf9, hnew⟩ := hro2.putRow (k := k) (r := List.replicate n 0) (by rw [zTo_len]; exact hlt) (o2.mono hbs) (fun c hc => by
          simp only [Value.ownBlock, Option.some.injEq] at hc
          subst hc
          exact ⟨fun h => by have := hbk.1 _ h; omega, fun j hj hne h => by have := hbk.2 j hj _ h; omega⟩)
        simp only [Value.slice.injEq, Option.some.injEq, Addr.mk.injEq, and_true] at e9
        obtain ⟨rfl, -, -⟩ := e9
        rw [zTo_step hlt] at hnew
        have HN := Lib.hid hnew
        have bw2 := hb.trans (b2.mono hbs)
        have bw3 := bw2.setCell (p := ⟨G, k, none⟩) hg1 (.slice (some ⟨W1.heap.size, 0, none⟩) n n)
        clear hown2 hgrow2 hnew o2 hro2 hbk)
      go_roundw
      case rel => exact ⟨k + 1, _, by omega, by go_num, HN.out, bw3⟩
      case measure => simp [intOf]; omega
    · obtain rfl : k = n := by omega
      rw [zTo_end] at HR
      clear hro
      go_wp2_with fail
      go_ret
      exact ⟨G, vl, rfl, HR.out, hb⟩

theorem allArcs_any (a : Option Addr) (xs : List Int) (cap : Nat) (w : World) (hx : Rd w a xs) (hl : xs.length ≤ 24) :
    Calls Try.prog 42 #[.slice a xs.length cap] w fun e w' => ∃ a' cap', e = .returned (.slice a' (acN xs xs.length) cap') ∧ OwnV w' w.heap.size (.slice a' (acN xs xs.length) cap') (acN xs xs.length) (acV xs xs.length) ∧ Below w.heap.size w w' := by
  obtain ⟨i0, hi, hz0, hz1, hz2⟩ := info_parts infoIv
  have hd : Int.tdiv (xs.length : Int) 2 = ((xs.length / 2 : Nat) : Int) := by rw [Int.tdiv_eq_ediv_of_nonneg (by omega)]; omega
  go_enter Try.func42, Try.ntmps42
  go_wp2_with (at_make; refine wpList_make_own _ rfl _ (.tmp 7) 52 rfl w.heap.size 55 i0 (.agg #[.int .i64 0, .int .i64 0]) 2 Try.underlying52 hi hz0 hz1 .i64 .i64 _ (xs.length / 2) rfl rfl (by omega) (by rw [hz2]; omega) (by unfold maxLen; omega) (Nat.le_refl _) ?_; intro w1 hown hgrow)
  have hown0 : OwnV w1 w.heap.size (.slice (some ⟨w.heap.size, 0, none⟩) 0 (xs.length / 2)) 0 [] := hown
  have b1 : Below w.heap.size w w1 := (Below.refl _ _).grown hgrow (Nat.le_refl _) (fun k h => by cases h)
  clear hown hgrow hd
  go_wp2_with fail
  go_loopw [3, 11] (fun v i wr => ∃ k : Nat, k ≤ xs.length ∧ i = .int .i64 k ∧ OwnV wr w.heap.size v (acN xs k) (acV xs k) ∧ Below w.heap.size w wr) (fun _ i _ => xs.length - (intOf i).toNat)
  case atStart => exact ⟨0, Nat.zero_le _, rfl, hown0, b1⟩
  case round =>
    clear hown0 b1
    obtain ⟨k, hk, rfl, hown, hb⟩ := hrel
    have hnl := acN_le xs k
    have hbs := hb.size
    by_cases hlt : k < xs.length
    · have hxr := hx.below hb
      obtain ⟨b, off, rfl, hbl, hc⟩ := hxr.cell k hlt
      cases h1 : opB xs k
      · have HN : Hid (acN xs (k+1) = acN xs k ∧ acV xs (k+1) = acV xs k) := by
          constructor
          · rw [acN, if_neg (by simp [h1])]
          · rw [acV, if_neg (by simp [h1])]
        have H1 := Lib.hid h1
        clear h1
        go_wp2_with fail
        refine (isOpener_any _ xs _ _ k _ hxr hlt rfl).mono ?_
        rw [H1.out]
        rintro e w2 ⟨rfl, rfl⟩
        go_wp2_with fail
        go_roundw
        case rel => exact ⟨k + 1, by omega, by go_num, by rw [HN.out.1, HN.out.2]; exact hown, hb⟩
        case measure => simp [intOf]; omega
      · have HN : Hid (acN xs (k+1) = acN xs k + 1 ∧ acV xs (k+1) = acV xs k ++ [(k : Int), nth xs k]) := by
          constructor
          · rw [acN, if_pos h1]
          · rw [acV, if_pos h1]
        obtain ⟨cs, hcs⟩ : ∃ cs, cs = acV xs k := ⟨_, rfl⟩
        obtain ⟨m, hm⟩ : ∃ m, m = acN xs k := ⟨_, rfl⟩
        rw [← hcs, ← hm] at hown HN
        rw [← hm] at hnl
        have H1 := Lib.hid h1
        clear hcs hm h1
        go_wp2_with fail
        refine (isOpener_any _ xs _ _ k _ hxr hlt rfl).mono ?_
        rw [H1.out]
        rintro e w2 ⟨rfl, rfl⟩
        go_wp2_with (at_builtin; refine push_iv rfl _ _ rfl rfl rfl hown rfl (by omega) hbs ?_; intro v3 w3 o3 hg _; have b3 := hb.trans (below_of_grown hg (fun c e => (hown.lt c e).1) hbs); clear hg hown)
        go_roundw
        case rel => exact ⟨k + 1, by omega, by go_num, by rw [HN.out.1, HN.out.2]; exact o3, b3⟩
        case measure => simp [intOf]; omega
    · obtain rfl : k = xs.length := by omega
      obtain ⟨a', cap', rfl⟩ := hown.form
      go_wp2_with fail
      go_ret
      exact ⟨a', cap', rfl, hown, hb⟩

theorem RowsP.cut {w : World} {B : Nat} {v : Value} {vl : List Value} {xss : List (List Int)} (h : RowsP w B v vl xss) {U : Nat} (hU : w.heap.size ≤ U) : (∀ c, v.ownBlock = some c → B ≤ c ∧ c < U) ∧ ∀ k, k < xss.length → ∀ c, (valAt vl k).ownBlock = some c → B ≤ c ∧ c < U :=
  ⟨fun c e => by have := h.o.lt c e; omega, fun k hk c e => by have := (h.o.row k hk).lt c e; omega⟩
theorem RowsP.touch {lo hi : Nat} {w w' : World} {B : Nat} {v : Value} {vl : List Value} {xss : List (List Int)} (h : RowsP w B v vl xss) (ht : TouchS lo hi w w') (h1 : ∀ c, v.ownBlock = some c → c < lo ∨ hi ≤ c) (h2 : ∀ k, k < xss.length → ∀ c, (valAt vl k).ownBlock = some c → c < lo ∨ hi ≤ c) : RowsP w' B v vl xss := by
  refine ⟨⟨⟨h.o.own.1, ?_⟩, fun k hk => (h.o.row k hk).touch ht (h2 k hk), h.o.apart⟩, h.pair⟩
  rcases h.o.own.2 with hn | ⟨g, cap, cur, e, hb', hg, rest⟩
  · exact .inl hn
  · refine .inr ⟨g, cap, cur, e, hb', ?_, rest⟩
    rw [ht.block g (Array.getElem?_eq_some_iff.1 hg).1 (h1 g (by rw [e]; rfl))]
    exact hg
theorem RowsP.kept {w w' : World} {B : Nat} {v : Value} {vl : List Value} {xss : List (List Int)} {row : Option Nat} (h : RowsP w B v vl xss) (hg : w.grownBy w' row) (h1 : ∀ c, v.ownBlock = some c → row ≠ some c) (h2 : ∀ k, k < xss.length → ∀ c, (valAt vl k).ownBlock = some c → row ≠ some c) : RowsP w' B v vl xss := by
  have e : ∀ u : Value, (∀ c, u.ownBlock = some c → row ≠ some c) → u.ownBlock = none ∨ u.ownBlock ≠ row := fun u hu => by
    cases hv : u.ownBlock with
    | none => exact .inl rfl
    | some c => exact .inr (fun e => hu c hv e.symm)
  exact ⟨⟨World.ownsRow.kept h.o.own hg (e v h1), fun k hk => (h.o.row k hk).kept hg (e _ (h2 k hk)), h.o.apart⟩, h.pair⟩
theorem OwnS.mono {w : World} {B B' g : Nat} {vl : List Value} {xss : List (List Int)} (h : OwnS w B g vl xss) (hB : B' ≤ B) : OwnS w B' g vl xss := ⟨Nat.le_trans hB h.lo, h.hi, h.max, h.cell, h.row, h.apart⟩
theorem TouchS.of_below {B lo hi : Nat} {w w1 w2 : World} (hb : Below w.heap.size w w1) (h : TouchS lo hi w1 w2) : TouchS lo hi w w2 :=
  ⟨h.os.trans hb.os, h.tape.trans hb.tape, h.output.trans hb.output, Nat.le_trans hb.size h.size, fun k hk hn => (h.block k (Nat.lt_of_lt_of_le hk hb.size) hn).trans (hb.block k hk)⟩

set_option maxRecDepth 100000 in
theorem iMxMt_any (a : Option Addr) (xs : List Int) (cap : Nat) (w : World) (hx : Rd w a xs) :
    Calls Try.prog 20 #[.slice a xs.length cap] w fun e w' => ∃ a0 c0 vl, e = .returned (.tuple #[.agg #[.slice a0 (mtmL xs).length c0], .bool (mcB xs)]) ∧ RowsP w' w.heap.size (.slice a0 (mtmL xs).length c0) vl (mtmL xs) ∧ Below w.heap.size w w' := by
  have hlen := hx.len
  have hV := Var1.new w (.slice none 0 0) 29
  have bw0 : Below w.heap.size w (w.alloc (.cells #[.slice none 0 0] 29)) := (by repeat (first | exact Below.refl _ _ | assumption | refine Below.alloc ?_ (by first | exact Nat.le_refl _ | (simp only [World.size_alloc, World.size_setCell, World.size_drew]; omega) | omega) _ | refine Below.setCell ?_ (by first | exact Nat.le_refl _ | (simp only [World.size_alloc, World.size_setCell, World.size_drew]; omega) | omega) _ | refine Below.drew ?_))
  have hx0 := hx.below bw0
  have HRL := rlL_len xs
  have HRC := Lib.hid (fun W (hr : Rd W a xs) => iRuns_any a xs cap W hr)
  cases hm : mcB xs
  · have H1 : Hid (mtmL xs = []) := by simp [Hid, mtmL, hm]
    rw [hm] at HRC
    clear hm
    go_enter Try.func20, Try.ntmps20
    go_wp2_with fail
    refine (HRC.out _ hx0).mono ?_
    rintro e w1 ⟨a1, c1, rfl, o1, hb⟩
    have b1 := bw0.trans (hb.mono bw0.size)
    have hV1 := hV.below hb
    have ⟨⟨zV, cV⟩, fV⟩ := hV1
    clear hb hV o1
    go_wp2_with fail
    have hV2 := hV1.set (.slice none 0 0)
    have b2 := b1.setCell (p := ⟨w.heap.size, 0, none⟩) (Nat.le_refl _) (.slice none 0 0)
    refine bodyPost_ret (v := .tuple #[.agg #[.slice none 0 0], .bool false]) (by have ⟨⟨_, q1⟩, _⟩ := hV2; simp [results, Try.results20, go_sem, q1]) rfl ?_
    exact ⟨none, 0, [], by rw [H1.out]; rfl, by rw [H1.out]; exact RowsP.nil _ _, b2⟩
  · have h24 := mcB_len hm
    have hD := mtD_le hm
    have hR2 := (mtD_two hm).1
    have hrl : (rlL xs).length = 2 * mtD xs := by rw [rlL, if_pos hm, hR2]
    have HOK := Lib.hid (mt_ok hm)
    have hM := acN_le xs xs.length
    have H1 : Hid (mtmL xs = sqM (mtI xs (acN xs xs.length)) (mtD xs) (mtD xs)) := by simp [Hid, mtmL, hm]
    have HAR := Lib.hid (fun W (hr : Rd W a xs) => allArcs_any a xs cap W hr h24)
    have HAL := Lib.hid (acV_len xs xs.length)
    have HB := Lib.hid hm
    unfold GotI at HRC
    rw [hm] at HRC
    rw [hrl] at HRC
    have HST : Hid (∀ T, T < acN xs xs.length → _) := fun T hT => mt_set (xs := xs) (T := T) (HOK.out T hT).2.2.2.2.1 (HOK.out T hT).2.2.2.2.2
    have HOK2 : Hid (∀ t, t < acN xs xs.length → lft (acV xs xs.length) t = (lkN xs t : Int) ∧ rgt (acV xs xs.length) t = (rkN xs t : Int) ∧ lkN xs t < xs.length ∧ rkN xs t < xs.length ∧ rnN xs (lkN xs t) / 2 < mtD xs ∧ rnN xs (rkN xs t) / 2 < mtD xs) := HOK.out
    obtain ⟨D, hDD⟩ : ∃ D, D = mtD xs := ⟨_, rfl⟩
    obtain ⟨M, hMM⟩ : ∃ M, M = acN xs xs.length := ⟨_, rfl⟩
    obtain ⟨cs, hcs⟩ : ∃ M, M = acV xs xs.length := ⟨_, rfl⟩
    rw [← hDD] at hD HRC H1 HOK2 HST
    rw [← hMM] at hM H1 HAR HAL HOK2 HST
    rw [← hcs] at HAR HAL HOK2
    have hd : Int.tdiv ((2 * D : Nat) : Int) 2 = (D : Int) := by rw [Int.tdiv_eq_ediv_of_nonneg (by omega)]; omega
    clear hm hR2 hrl HOK hDD hMM hcs HRL
    go_enter Try.func20, Try.ntmps20
    go_wp2_with fail
    refine (HRC.out _ hx0).mono ?_
    rintro e w1 ⟨a1, c1, rfl, o1, hb⟩
    have b1 := bw0.trans (hb.mono bw0.size)
    have hV1 := hV.below hb
    clear hb hV o1 bw0 hx0
    go_wp2_with fail
    refine (zeroRows_any D _ (by omega)).mono ?_
    rintro e w2 ⟨g, vl, rfl, hro, hb2⟩
    have b2 := b1.trans (hb2.mono b1.size)
    have hV2 := hV1.below hb2
    rw [← mtI_zero xs] at hro
    go_wp2_with fail
    refine (runNumbers_any _ _ _ _ (hx.below b2) h24).mono ?_
    rintro e w3 ⟨a3, c3, rfl, o3, hb3⟩
    have b3 := b2.trans (hb3.mono b2.size)
    have hV3 := hV2.below hb3
    have hro3 := hro.below hb3 (Nat.le_refl _)
    have hr3 := o3.rd
    go_wp2_with fail
    refine (HAR.out _ (hx.below b3)).mono ?_
    rintro e w4 ⟨a4, c4, rfl, o4, hb4⟩
    have b4 := b3.trans (hb4.mono b3.size)
    have hV4 := hV3.below hb4
    have hro4 := hro3.below hb4 (Nat.le_refl _)
    have hr4 := hr3.below hb4
    have o34 := o3.below hb4 (Nat.le_refl _)
    have hcr := (hro.cut (Nat.le_refl _)).2
    have hz12 := hb2.size
    have hz23 := hb3.size
    have hz34 := hb4.size
    have bw := b1
    have b14 : Below w1.heap.size w1 w4 := (hb2.trans (hb3.mono hz12)).trans (hb4.mono (by omega))
    have hz1 := b1.size
    clear hb2 hb3 hb4 hV2 hV3 hro hro3 hr3 hr4 o3 b2 b3 b4 b1
    go_wp2_with fail
    go_loopw [27] (fun i wr => ∃ T : Nat, T ≤ M ∧ i = .int .i64 T ∧ RowsP wr w1.heap.size (.slice (some ⟨g, 0, none⟩) D D) vl (sqM (mtI xs T) D D) ∧ OwnI wr w2.heap.size (.slice a3 xs.length c3) (fmap (rnF xs) xs.length) ∧ OwnV wr w3.heap.size (.slice a4 M c4) M cs ∧ Below w1.heap.size w1 wr) (fun i _ => M - (intOf i).toNat)
    case atStart => exact ⟨0, Nat.zero_le _, rfl, hro4, o34, o4, b14⟩
    case round =>
      clear hro4 o34 o4 b14 hV4
      obtain ⟨T, hT, rfl, hro, o3, o4, hb⟩ := hrel
      have hbs := hb.size
      by_cases hlt : T < M
      · have ⟨k1, k2, k3, k4, k5, k6⟩ := HOK2.out T hlt
        obtain ⟨b, off, rfl, hbl, hd1, hd2⟩ := (o4.rd (by omega)).pair HAL.out hlt
        rw [k1] at hd1
        rw [k2] at hd2
        have bA : Below wr.heap.size wr (wr.alloc (.cells #[.int .i64 (lkN xs T), .int .i64 (rkN xs T)] 55)) := (Below.refl _ _).alloc (Nat.le_refl _) _
        have hro1 := hro.below bA (Nat.le_refl _)
        have o31 := o3.alloc (.cells #[.int .i64 (lkN xs T), .int .i64 (rkN xs T)] 55)
        have o41 := o4.alloc (.cells #[.int .i64 (lkN xs T), .int .i64 (rkN xs T)] 55)
        have b31 := hb.alloc hbs (.cells #[.int .i64 (lkN xs T), .int .i64 (rkN xs T)] 55)
        have hfl : (fmap (rnF xs) xs.length).length = xs.length := fmap_len _ _
        obtain ⟨b3, off3, e3, hbl3, hc3⟩ := o31.rd.cell (lkN xs T) (by omega)
        obtain ⟨b3', off3', e3', hbl3', hc3'⟩ := o31.rd.cell (rkN xs T) (by omega)
        rw [e3] at e3'
        simp only [Option.some.injEq, Addr.mk.injEq, and_true] at e3'
        obtain ⟨rfl, rfl⟩ := e3'
        rw [fmap_nth _ k3, rnF] at hc3
        rw [fmap_nth _ k4, rnF] at hc3'
        have HSET := Lib.hid (HST.out T hlt)
        have hsl : (sqM (mtI xs T) D D).length = D := sqM_len _ _ _
        obtain ⟨gq, eq, hq0, hq1, hq2, hq3⟩ := hro1.outer (k := rnN xs (lkN xs T) / 2) (by rw [hsl]; exact k5)
        simp only [Option.some.injEq, Addr.mk.injEq, and_true] at eq
        obtain rfl := eq
        obtain ⟨gr, cr, er, hg0, hg1, hcr', hfr, hnew⟩ := hro1.num (i := rnN xs (lkN xs T) / 2) (j := rnN xs (rkN xs T) / 2) (by rw [hsl]; exact k5) (by rw [sqM_rlen k5]; exact k6)
        rw [sqM_rlen k5] at er
        rw [sqM_at k5 k6] at hcr'
        have hgr := hcr _ (by rw [sqM_len]; exact k5) gr (by rw [er]; rfl)
        rw [er] at hq2
        have hn1 := hnew (mtI xs T (rnN xs (lkN xs T) / 2) (rnN xs (rkN xs T) / 2) + 1)
        rw [HSET.out] at hn1
        have hv1 := mtE_le xs T (rnN xs (lkN xs T) / 2) (rnN xs (rkN xs T) / 2)
        have hv : 0 ≤ mtI xs T (rnN xs (lkN xs T) / 2) (rnN xs (rkN xs T) / 2) ∧ mtI xs T (rnN xs (lkN xs T) / 2) (rnN xs (rkN xs T) / 2) ≤ 24 := by unfold mtI; omega
        have hp1 := rnN_le xs (lkN xs T)
        have hp2 := rnN_le xs (rkN xs T)
        have hi1 : Int.tdiv (rnN xs (lkN xs T) : Int) 2 = ((rnN xs (lkN xs T) / 2 : Nat) : Int) := by rw [Int.tdiv_eq_ediv_of_nonneg (by omega)]; omega
        have hi2 : Int.tdiv (rnN xs (rkN xs T) : Int) 2 = ((rnN xs (rkN xs T) / 2 : Nat) : Int) := by rw [Int.tdiv_eq_ediv_of_nonneg (by omega)]; omega
        obtain ⟨lk, hlk⟩ : ∃ x, x = lkN xs T := ⟨_, rfl⟩
        obtain ⟨rk, hrk⟩ : ∃ x, x = rkN xs T := ⟨_, rfl⟩
        obtain ⟨p1, hp1'⟩ : ∃ x, x = rnN xs (lkN xs T) := ⟨_, rfl⟩
        obtain ⟨p2, hp2'⟩ : ∃ x, x = rnN xs (rkN xs T) := ⟨_, rfl⟩
        rw [← hp1', ← hp2'] at hv
        rw [← hp1'] at hp1 hi1 k5 hc3 hq2 hq3 hcr' hn1
        rw [← hp2'] at hp2 hi2 k6 hc3' hcr' hfr hn1
        obtain ⟨q1, hq1'⟩ : ∃ x, x = p1 / 2 := ⟨_, rfl⟩
        obtain ⟨q2, hq2'⟩ : ∃ x, x = p2 / 2 := ⟨_, rfl⟩
        rw [← hq1'] at hi1 k5 hq2 hq3 hcr' hn1 hv
        rw [← hq2'] at hi2 k6 hcr' hfr hn1 hv
        rw [← hlk] at hd1 hp1 k3 hc3 hq2 hq3 hcr' hfr hn1 o31 o41 b31 hc3'
        rw [← hrk] at hd2 hp2 k4 hc3 hc3' hq2 hq3 hcr' hfr hn1 o31 o41 b31
        obtain ⟨V, hVV⟩ : ∃ x, x = mtI xs T q1 q2 := ⟨_, rfl⟩
        rw [← hVV] at hcr' hn1 hv
        have o32 := o31.setBelow (p := ⟨gr, q2, none⟩) hgr.2 (.int .i64 (V + 1))
        have o42 : OwnV _ w3.heap.size (.slice (some ⟨b, off, none⟩) M c4) M cs := ownsRow_setCell_below o41 (show (⟨gr, q2, none⟩ : Addr).block < w3.heap.size by have := hgr.2; show gr < _; omega) (.int .i64 (V + 1))
        have b32 := b31.setCell (p := ⟨gr, q2, none⟩) hgr.1 (.int .i64 (V + 1))
        have HF := Lib.hid (And.intro hn1 (And.intro o32 (And.intro o42 b32)))
        have ⟨hv0, hv24⟩ := hv
        have z1 : p1 ≤ 24 := by omega
        have z2 : p2 ≤ 24 := by omega
        clear hro o3 o4 hro1 o31 o41 b31 hn1 o32 o42 b32 hnew hVV hlk hrk hp1' hp2' hq1' hq2' hv hv1 er hgr k1 k2 hp1 hp2 HST
        go_wp2_with fail
        go_region
        all_goals
          go_wp2_with fail
          go_roundw
          case rel =>
            first
              | exact ⟨T + 1, by omega, by go_num, HF.out.1, HF.out.2.1, HF.out.2.2.1, HF.out.2.2.2⟩
              | exact ⟨T + 1, by omega, by go_num, HF.out.1.below (Below.refl _ _).drew (Nat.le_refl _), HF.out.2.1.below (Below.refl _ _).drew (Nat.le_refl _), HF.out.2.2.1.below (Below.refl _ _).drew (Nat.le_refl _), HF.out.2.2.2.drew⟩
          case measure => simp [intOf]; omega
      · obtain rfl : T = M := by omega
        have hV4 := hV1.below hb
        have ⟨⟨zV, cV⟩, fV⟩ := hV4
        go_wp2_with fail
        have hV2 := hV4.set (.slice (some ⟨g, 0, none⟩) D D)
        have b2 := (bw.trans (hb.mono hz1)).setCell (p := ⟨w.heap.size, 0, none⟩) (Nat.le_refl _) (.slice (some ⟨g, 0, none⟩) D D)
        refine bodyPost_ret (v := .tuple #[.agg #[.slice (some ⟨g, 0, none⟩) D D], .bool true]) (by have ⟨⟨_, q1⟩, _⟩ := hV2; simp [results, Try.results20, go_sem, q1]) rfl ?_
        exact ⟨some ⟨g, 0, none⟩, D, vl, by rw [H1.out, sqM_len], by rw [H1.out, sqM_len]; exact (hro.setBelow (show w.heap.size < w1.heap.size from hV1.1.1) _).mono hz1, b2⟩



def ctF (e : Nat → Nat → Nat) (i j t b : Nat) : Nat := if b < j then cS e b (i+1) else if b = j then cS e b i + t else cS e b i
/-- the openers whose closers are to come, for each run of closers -/
def opR (e : Nat → Nat → Nat) (d i j t : Nat) : List (List Int) := (List.range d).map (fun b => fmap (fun s => (tmF e d (cP e d b + s) : Int)) (ctF e i j t b))
theorem opR_len (e : Nat → Nat → Nat) (d i j t : Nat) : (opR e d i j t).length = d := by simp [opR]
theorem opR_row (e : Nat → Nat → Nat) {d b : Nat} (i j t : Nat) (h : b < d) : rowL (opR e d i j t) b = fmap (fun s => (tmF e d (cP e d b + s) : Int)) (ctF e i j t b) := by simp [opR, rowL, h]
theorem opR_ext {e : Nat → Nat → Nat} {d i j t i' j' t' : Nat} (h : ∀ b, b < d → ctF e i j t b = ctF e i' j' t' b) : opR e d i j t = opR e d i' j' t' := by
  simp only [opR]
  apply List.map_congr_left
  intro b hb
  rw [h b (by simpa using hb)]
theorem opR_nextj (e : Nat → Nat → Nat) (d i j : Nat) : opR e d i j (e i j) = opR e d i (j+1) 0 := opR_ext (fun b hb => by
  unfold ctF
  by_cases h1 : b < j
  · rw [if_pos h1, if_pos (by omega)]
  · rw [if_neg h1]
    by_cases h2 : b = j
    · subst h2; rw [if_pos rfl, if_pos (by omega)]; rfl
    · rw [if_neg h2, if_neg (by omega)]
      split <;> rfl)
theorem opR_nexti (e : Nat → Nat → Nat) (d i : Nat) : opR e d i d 0 = opR e d (i+1) 0 0 := opR_ext (fun b hb => by
  unfold ctF
  rw [if_pos hb, if_neg (by omega)]
  split <;> rfl)
theorem opR_zero (e : Nat → Nat → Nat) (d : Nat) : List.replicate d [] = opR e d 0 0 0 := by
  apply List.ext_getElem (by simp [opR])
  intro b h1 h2
  have hb : b < d := by simpa using h1
  have hc : ctF e 0 0 0 b = 0 := by
    unfold ctF
    rw [if_neg (by omega)]
    split <;> rfl
  simp [opR, hc, fmap]
theorem opR_set {e : Nat → Nat → Nat} {d i j t X : Nat} (hj : j < d) (hX : tmF e d (cP e d j + cS e j i + t) = X) : (opR e d i j t).set j (rowL (opR e d i j t) j ++ [(X : Int)]) = opR e d i j (t+1) := by
  have hr := opR_row e i j t hj
  have hcj : ctF e i j t j = cS e j i + t := by rw [ctF, if_neg (by omega), if_pos rfl]
  have hcj2 : ctF e i j (t+1) j = cS e j i + t + 1 := by rw [ctF, if_neg (by omega), if_pos rfl]; omega
  rw [hr, hcj]
  apply List.ext_getElem (by rw [List.length_set, opR_len, opR_len])
  intro b h1 h2
  have hb : b < d := by rw [opR_len] at h2; exact h2
  rw [List.getElem_set]
  by_cases e1 : j = b
  · subst e1
    rw [if_pos rfl]
    simp only [opR, List.getElem_map, List.getElem_range]
    rw [hcj2, fmap_succ, ← hX, Nat.add_assoc (cP e d j)]
  · rw [if_neg e1]
    simp only [opR, List.getElem_map, List.getElem_range]
    have : ctF e i j t b = ctF e i j (t+1) b := by
      unfold ctF
      by_cases h3 : b < j
      · rw [if_pos h3, if_pos h3]
      · rw [if_neg h3, if_neg h3, if_neg (fun h => e1 h.symm), if_neg (fun h => e1 h.symm)]
    rw [this]
/-- the openers of the run of closers i, all of them -/
theorem opR_full {e : Nat → Nat → Nat} {d i : Nat} (hu : UpN e) (hi : i < d) : rowL (opR e d i d 0) i = fmap (fun s => (tmF e d (cP e d i + s) : Int)) (cS e i d) := by
  rw [opR_row e i d 0 hi]
  congr 1
  rw [ctF, if_pos hi]
  have : ∀ k, i + 1 ≤ k → cS e i k = cS e i (i+1) := by
    intro k hk
    induction k with
    | zero => omega
    | succ k ih =>
      by_cases e0 : i + 1 = k + 1
      · rw [e0]
      · have h1 : cS e i (k+1) = cS e i k + e k i := rfl
        rw [h1, ih (by omega), hu k i (by omega)]; omega
  exact (this d (by omega)).symm
/-- a row of the rows has grown, and may lie in a new block -/
theorem RowsP.growRow {w w2 : World} {B : Nat} {v u : Value} {vl : List Value} {xss : List (List Int)} {r : List Int} (h : RowsP w B v vl xss) {k : Nat} (hk : k < xss.length) (hg : w.grownBy w2 (valAt vl k).ownBlock) (hu : OwnI w2 B u r) (hub : ∀ c, u.ownBlock = some c → (valAt vl k).ownBlock = some c ∨ w.heap.size ≤ c) :
    ∃ g c, v = .slice (some ⟨g, 0, none⟩) xss.length c ∧ B ≤ g ∧ g < w2.heap.size ∧ (∃ z, w2.cell? ⟨g, k, none⟩ = some z) ∧ w2.frozen? ⟨g, k, none⟩ = false ∧ RowsP (w2.setCell ⟨g, k, none⟩ u) B v (vl.set k u) (xss.set k r) := by
  have hl := h.o.vlen
  have ⟨bv, br⟩ := h.blk
  have n1 : ∀ c, u.ownBlock = some c → v.ownBlock ≠ some c := fun c hc h2 => by
    rcases hub c hc with h3 | h3
    · exact h.o.apart k hk c h3 h2
    · have := bv c h2; omega
  have n2 : ∀ j, j < xss.length → j ≠ k → ∀ c, u.ownBlock = some c → (valAt vl j).ownBlock ≠ some c := fun j hj hjk c hc h2 => by
    rcases hub c hc with h3 | h3
    · rcases Nat.lt_or_gt_of_ne hjk with h6 | h6
      · exact h.pair j k h6 hk c h2 h3
      · exact h.pair k j h6 hj c h3 h2
    · have := br j hj c h2; omega
  have hout : w2.ownsRow B 26 1 v xss.length vl := World.ownsRow.kept h.o.own hg (own_ne (fun c h1 h2 => h.o.apart k hk c h2 h1))
  rcases h.o.own.2 with ⟨e, h0⟩ | ⟨g, cap3, cur, e, hb, hgg, _⟩
  · omega
  · subst e
    have h1 := World.ownsRow.cellAt hout k (by omega)
    have hgr := grown_set w2 ⟨g, k, none⟩ u
    have hval : ∀ j, valAt (vl.set k u) j = if j = k then u else valAt vl j := by
      intro j
      simp only [valAt, List.getD_eq_getElem?_getD, List.getElem?_set]
      by_cases e : k = j
      · subst e; simp [show k < vl.length by omega]
      · simp [e, Ne.symm e]
    have hrow : ∀ j, j < xss.length → rowL (xss.set k r) j = if j = k then r else rowL xss j := by
      intro j hj
      simp only [rowL, List.getD_eq_getElem?_getD, List.getElem?_set]
      by_cases e : k = j
      · subst e; simp [hk]
      · simp [e, Ne.symm e]
    refine ⟨g, cap3, rfl, hb, (World.ownsRow.lt hout g rfl).2, ⟨_, by rw [h1, valAt_get (by omega)]⟩, World.ownsRow.frozenAt hout k, ⟨⟨?_, fun j hj => ?_, fun j hj c hc => ?_⟩, fun i j hij hj c hc => ?_⟩⟩
    · rw [List.length_set]
      exact (World.ownsRow.stored hout k u).1
    · rw [List.length_set] at hj
      rw [hval, hrow j hj]
      by_cases e : j = k
      · rw [if_pos e, if_pos e]
        exact hu.kept hgr (own_nb (fun c h1 h2 => n1 c h1 (by rw [h2]; rfl)))
      · rw [if_neg e, if_neg e]
        have h3 : OwnI w2 B (valAt vl j) (rowL xss j) := (h.o.row j hj).kept hg (own_ne (fun c h4 h5 => by
          rcases Nat.lt_or_gt_of_ne e with h6 | h6
          · exact h.pair j k h6 hk c h4 h5
          · exact h.pair k j h6 hj c h5 h4))
        exact h3.kept hgr (own_nb (fun c h1 h2 => h.o.apart j hj c h1 (by rw [h2]; rfl)))
    · rw [List.length_set] at hj
      rw [hval] at hc
      by_cases e : j = k
      · rw [if_pos e] at hc; exact n1 c hc
      · rw [if_neg e] at hc; exact h.o.apart j hj c hc
    · rw [List.length_set] at hj
      rw [hval] at hc ⊢
      by_cases e : j = k
      · rw [if_pos e]
        rw [if_neg (by omega)] at hc
        exact fun h2 => n2 i (by omega) (by omega) c h2 hc
      · rw [if_neg e]
        by_cases e2 : i = k
        · rw [if_pos e2] at hc
          exact n2 j hj e c hc
        · rw [if_neg e2] at hc
          exact h.pair i j hij hj c hc
/-- a row that lies below what changes -/
theorem OwnI.far {w w' : World} {B0 B g n c : Nat} {xs : List Int} (h : OwnI w B0 (.slice (some ⟨g, 0, none⟩) n c) xs) (hb : Below B w w') (hg : g < B) : OwnI w' B0 (.slice (some ⟨g, 0, none⟩) n c) xs := by
  refine ⟨h.1, ?_⟩
  rcases h.2 with hn | ⟨g', cap, cur, e, hb', hgg, rest⟩
  · exact .inl hn
  · refine .inr ⟨g', cap, cur, e, hb', ?_, rest⟩
    simp only [Value.slice.injEq, Option.some.injEq, Addr.mk.injEq, and_true] at e
    rw [hb.block g' (by omega)]
    exact hgg
/-- a list that grows in its block, and rows of numbers behind it -/
structure StM (W0 W : World) (B0 B gp go N d L : Nat) (ps : List Int) (vl : List Value) (rs : List (List Int)) : Prop where
  o : OwnI W B0 (.slice (some ⟨gp, 0, none⟩) L N) ps
  r : RowsP W B (.slice (some ⟨go, 0, none⟩) d d) vl rs
  l : ps.length = L
  lr : rs.length = d
  lo : B0 ≤ gp
  hi : gp < B
  bs : B ≤ W.heap.size
  b : Below B0 W0 W
theorem StM.push {W0 W W' : World} {B0 B gp go N d L : Nat} {ps ps' : List Int} {vl : List Value} {rs : List (List Int)} (h : StM W0 W B0 B gp go N d L ps vl rs) (hg : W.grownBy W' (some gp)) (ho : OwnI W' B0 (.slice (some ⟨gp, 0, none⟩) (L+1) N) ps') (hl : ps'.length = L + 1) : StM W0 W' B0 B gp go N d (L+1) ps' vl rs := by
  have ⟨c1, c2⟩ := h.r.cut (Nat.le_refl _)
  have h1 := h.hi
  refine ⟨ho, h.r.kept hg (fun c e e2 => ?_) (fun k hk c e e2 => ?_), hl, h.lr, h.lo, h.hi, Nat.le_trans h.bs hg.size, h.b.trans (grown_below hg _ h.lo (Nat.le_trans h.b.size (Nat.le_refl _) |> fun _ => Nat.le_trans (Nat.le_trans h.lo (Nat.le_of_lt h.hi)) h.bs))⟩
  · have := (c1 c e).1
    simp only [Option.some.injEq] at e2; omega
  · have := (c2 k hk c e).1
    simp only [Option.some.injEq] at e2; omega
theorem StM.grow {W0 W w3 : World} {B0 B gp go N d L : Nat} {ps : List Int} {vl : List Value} {rs : List (List Int)} (h : StM W0 W B0 B gp go N d L ps vl rs) {j : Nat} (hj : j < d) {v' : Value} {r : List Int} (hg : W.grownBy w3 (valAt vl j).ownBlock) (ho : OwnI w3 B v' r) (hat : v'.ownBlock = (valAt vl j).ownBlock ∨ v'.ownBlock = some (W.heap.size + 1)) :
    (∃ z, w3.cell? ⟨go, j, none⟩ = some z) ∧ w3.frozen? ⟨go, j, none⟩ = false ∧ StM W0 (w3.setCell ⟨go, j, none⟩ v') B0 B gp go N d L ps (vl.set j v') (rs.set j r) := by
  have hjr : j < rs.length := by rw [h.lr]; exact hj
  obtain ⟨g', c', ev, hB', hg', hz, hf, HR⟩ := h.r.growRow hjr hg ho (fun c e => by
    rcases hat with h1 | h1
    · exact .inl (h1 ▸ e)
    · rw [h1] at e
      simp only [Option.some.injEq] at e
      exact .inr (by omega))
  simp only [Value.slice.injEq, Option.some.injEq, Addr.mk.injEq, and_true] at ev
  obtain ⟨rfl, -, rfl⟩ := ev
  have hlo := h.lo
  have hhi := h.hi
  have hb3 : Below B W w3 := below_of_grown hg (fun c e => ((h.r.o.row j hjr).lt c e).1) h.bs
  have hgr := grown_set w3 ⟨go, j, none⟩ v'
  refine ⟨hz, hf, ⟨(h.o.far hb3 hhi).kept hgr (own_b (by show gp ≠ go; omega)), ?_, h.l, by rw [List.length_set]; exact h.lr, h.lo, h.hi, ?_, (h.b.trans (hb3.mono (by omega))).setCell (p := ⟨go, j, none⟩) (by show B0 ≤ go; omega) _⟩⟩
  · exact HR
  · have := h.bs; have := hb3.size; simp; omega
theorem StM.putP {W0 W : World} {B0 B gp go N d L : Nat} {ps : List Int} {vl : List Value} {rs : List (List Int)} (h : StM W0 W B0 B gp go N d L ps vl rs) (i : Nat) (x : Int) : StM W0 (W.setCell ⟨gp, i, none⟩ (.int .i64 x)) B0 B gp go N d L (ps.set i x) vl rs := by
  have hp := h.o.put h.l.symm i x
  have ⟨c1, c2⟩ := h.r.cut (Nat.le_refl _)
  have h1 := h.hi
  refine ⟨hp.1, h.r.kept hp.2 (fun c e e2 => ?_) (fun k hk c e e2 => ?_), by rw [List.length_set]; exact h.l, h.lr, h.lo, h.hi, by simpa using h.bs, h.b.setCell (p := ⟨gp, i, none⟩) h.lo _⟩
  · have := (c1 c e).1
    simp only [Option.some.injEq] at e2; omega
  · have := (c2 k hk c e).1
    simp only [Option.some.injEq] at e2; omega
theorem tm_back {e : Nat → Nat → Nat} {d i q : Nat} (hu : UpN e) (hi : i < d) (h1 : cP e d i ≤ q) (h2 : q < oP e d (i+1)) : tmF e d q < cP e d i := by
  have h3 : oP e d (i+1) = oP e d i + (rS e i d + cS e i d) := rfl
  have h6 : cP e d i = oP e d i + rS e i d := rfl
  have h7 : oP e d (i+1) ≤ oP e d d := sN_up _ (by omega)
  obtain ⟨i', j, t, hi', hj, ht, h | h⟩ := tm_of (e := e) (d := d) (q := q) (by omega)
  · have ⟨_, _, h5⟩ := tm_lt hu hi' hj ht
    have h8 : oP e d (i'+1) = oP e d i' + (rS e i' d + cS e i' d) := rfl
    have h9 : cP e d i' = oP e d i' + rS e i' d := rfl
    have := tm_blk (e := e) (d := d) (q := q) (i := i) (i' := i') (by omega) (by omega) (by omega) (by omega)
    subst this
    omega
  · have ⟨h10, h4, h5⟩ := tm_lt hu hi' hj ht
    have h9 : cP e d j = oP e d j + rS e j d := rfl
    have := tm_blk (e := e) (d := d) (q := q) (i := i) (i' := j) (by omega) (by omega) (by omega) (by omega)
    subst this
    have h11 := tm_cl hi' hj ht
    rw [h, h11]
    by_cases hii : i' = i
    · subst hii; omega
    · have hij : i' < i := by
        apply Classical.byContradiction
        intro hn
        have := hu i' i (by omega)
        omega
      have h12 : oP e d (i'+1) ≤ oP e d i := sN_up _ (by omega)
      have h13 : oP e d (i'+1) = oP e d i' + (rS e i' d + cS e i' d) := rfl
      have h14 : cP e d i' = oP e d i' + rS e i' d := rfl
      omega

def addB (s x : Int) : Bool := decide (0 ≤ x) && decide (s + x ≤ 12)
theorem addB_iff {s x : Int} : addB s x = true ↔ 0 ≤ x ∧ s + x ≤ 12 := by simp [addB]
def addW (b : Nat) (s x : Int) (w : World) : World := if addB s x = true then w.setCell ⟨b, 0, none⟩ (.int .i64 (s + x)) else w
theorem iAdd_any (b : Nat) (s x : Int) (v : Value) (w : World) (hv : Var2 w b (.int .i64 s) v) (h0 : 0 ≤ s ∧ s ≤ 12) :
    Calls Try.prog 50 #[.pointer (some ⟨b, 0, none⟩), .int .i64 x] w fun e w' => e = .returned (.bool (addB s x)) ∧ w' = addW b s x w := by
  have ⟨⟨z, c, d⟩, f, g⟩ := hv
  by_cases h1 : x < 0
  · have H : Hid (addB s x = false) := by rw [Hid, ← Bool.not_eq_true, addB_iff]; omega
    go_enter Try.func50, Try.ntmps50
    go_wp2_with fail
    go_ret
    exact ⟨ret_bool H.out.symm, by rw [addW, H.out]; rfl⟩
  · by_cases h2 : 12 - s < x
    · have H : Hid (addB s x = false) := by rw [Hid, ← Bool.not_eq_true, addB_iff]; omega
      go_enter Try.func50, Try.ntmps50
      go_wp2_with fail
      go_ret
      exact ⟨ret_bool H.out.symm, by rw [addW, H.out]; rfl⟩
    · have H : Hid (addB s x = true) := addB_iff.2 (by omega)
      go_enter Try.func50, Try.ntmps50
      go_wp2_with fail
      go_ret
      exact ⟨ret_bool H.out.symm, by rw [addW, H.out]; rfl⟩

theorem infoSum : (Try.prog.info? 83).map (fun i => (i.zero, i.size, i.bytes)) = some (some (.agg #[.int .i64 0, .slice none 0 0]), 2, 32) := by kernel_rfl
theorem valAt_end (vl : List Value) (v : Value) : valAt (vl ++ [v]) vl.length = v := by
  simp [valAt]
/-- the cells of the first k rows, each with its sum ahead of it -/
def pcs (xss : List (List Int)) (vl : List Value) : Nat → List Value
  | 0 => []
  | k+1 => pcs xss vl k ++ [.int .i64 (totR (rowL xss k)), valAt vl k]
theorem pcs_len (xss : List (List Int)) (vl : List Value) : ∀ k, (pcs xss vl k).length = k * 2
  | 0 => rfl
  | k+1 => by rw [pcs, List.length_append, pcs_len xss vl k]; simp; omega
theorem pcs_at {xss : List (List Int)} {vl : List Value} {i : Nat} : ∀ {k : Nat}, i < k → (pcs xss vl k)[i * 2]? = some (.int .i64 (totR (rowL xss i))) ∧ (pcs xss vl k)[i * 2 + 1]? = some (valAt vl i)
  | 0, h => by omega
  | k+1, h => by
    have hl := pcs_len xss vl k
    by_cases e : i = k
    · subst e
      rw [pcs, List.getElem?_append_right (by omega), List.getElem?_append_right (by omega), hl]
      refine ⟨?_, ?_⟩
      · rw [Nat.sub_self]; rfl
      · rw [show i * 2 + 1 - i * 2 = 1 by omega]; rfl
    · rw [pcs, List.getElem?_append_left (by omega), List.getElem?_append_left (by omega)]
      exact pcs_at (by omega)
theorem rowL_app {xss yss : List (List Int)} {k : Nat} (h : k < xss.length) : rowL (xss ++ yss) k = rowL xss k := by
  rw [rowL, rowL, List.getD_eq_getElem?_getD, List.getD_eq_getElem?_getD, List.getElem?_append_left h]
theorem rowL_last (xss : List (List Int)) (r : List Int) : rowL (xss ++ [r]) xss.length = r := by
  simp [rowL]
theorem rowL_take {xss : List (List Int)} {j k : Nat} (h : j < k) : rowL (xss.take k) j = rowL xss j := by
  rw [rowL, rowL, List.getD_eq_getElem?_getD, List.getD_eq_getElem?_getD, List.getElem?_take, if_pos h]
theorem take_snocR {xss : List (List Int)} {k : Nat} (h : k < xss.length) : xss.take (k+1) = xss.take k ++ [rowL xss k] := by
  rw [List.take_succ_eq_append_getElem h]
  simp [rowL, h]
theorem pcs_congr {xss yss : List (List Int)} {vl ul : List Value} : ∀ {k : Nat}, (∀ j, j < k → rowL xss j = rowL yss j ∧ valAt vl j = valAt ul j) → pcs xss vl k = pcs yss ul k
  | 0, _ => rfl
  | k+1, h => by rw [pcs, pcs, pcs_congr (fun j hj => h j (by omega)), (h k (by omega)).1, (h k (by omega)).2]
/-- rows with their sums, each row in a block of its own -/
structure SumP (w : World) (B : Nat) (v : Value) (vl : List Value) (xss : List (List Int)) : Prop where
  own : w.ownsRow B 83 2 v xss.length (pcs xss vl xss.length)
  vlen : vl.length = xss.length
  row : ∀ k, k < xss.length → OwnI w B (valAt vl k) (rowL xss k)
  apart : ∀ k, k < xss.length → ∀ c, (valAt vl k).ownBlock = some c → v.ownBlock ≠ some c
  pair : ∀ j k, j < k → k < xss.length → ∀ c, (valAt vl j).ownBlock = some c → (valAt vl k).ownBlock ≠ some c
theorem SumP.nil (w : World) (B : Nat) : SumP w B (.slice none 0 0) [] [] :=
  ⟨World.ownsRow_nil _ _ _ _, rfl, fun k hk => by simp at hk, fun k hk => by simp at hk, fun j k _ hk => by simp at hk⟩
theorem SumP.form {w : World} {B : Nat} {v : Value} {vl : List Value} {xss : List (List Int)} (h : SumP w B v vl xss) : ∃ a cap, v = .slice a xss.length cap := by
  rcases h.own.2 with ⟨rfl, h0⟩ | ⟨g, cap, cur, rfl, _⟩
  · exact ⟨none, 0, by rw [h0]⟩
  · exact ⟨_, _, rfl⟩
theorem SumP.below {w w' : World} {B B' : Nat} {v : Value} {vl : List Value} {xss : List (List Int)} (h : SumP w B v vl xss) (hb : Below B' w w') (hB : w.heap.size ≤ B') : SumP w' B v vl xss :=
  ⟨ownsRow_bel h.own hb hB, h.vlen, fun k hk => (h.row k hk).below hb hB, h.apart, h.pair⟩
theorem SumP.lt {w : World} {B : Nat} {v : Value} {vl : List Value} {xss : List (List Int)} (h : SumP w B v vl xss) : ∀ b, v.ownBlock = some b → B ≤ b ∧ b < w.heap.size := World.ownsRow.lt h.own
theorem SumP.blk {w : World} {B : Nat} {v : Value} {vl : List Value} {xss : List (List Int)} (h : SumP w B v vl xss) : (∀ c, v.ownBlock = some c → c < w.heap.size) ∧ ∀ k, k < xss.length → ∀ c, (valAt vl k).ownBlock = some c → c < w.heap.size :=
  ⟨fun c e => (h.lt c e).2, fun k hk c e => ((h.row k hk).lt c e).2⟩
theorem SumP.mono {w : World} {B B' : Nat} {v : Value} {vl : List Value} {xss : List (List Int)} (h : SumP w B v vl xss) (hB : B' ≤ B) : SumP w B' v vl xss := by
  refine ⟨⟨h.own.1, ?_⟩, h.vlen, fun k hk => (h.row k hk).mono hB, h.apart, h.pair⟩
  rcases h.own.2 with hn | ⟨g, cap, cur, e, hb, rest⟩
  · exact .inl hn
  · exact .inr ⟨g, cap, cur, e, by omega, rest⟩
/-- the cells of a part -/
theorem SumP.at {w : World} {B n cap : Nat} {a : Option Addr} {vl : List Value} {xss : List (List Int)} (h : SumP w B (.slice a n cap) vl xss) {k : Nat} (hk : k < xss.length) : ∃ g, a = some ⟨g, 0, none⟩ ∧ g < w.heap.size ∧ w.cell? ⟨g, k * 2, none⟩ = some (.int .i64 (totR (rowL xss k))) ∧ w.cell? ⟨g, k * 2 + 1, none⟩ = some (valAt vl k) := by
  rcases h.own.2 with ⟨e, h0⟩ | ⟨g, cap3, cur, e, hb, hg, hn, hm, hs, ht⟩
  · omega
  · simp only [Value.slice.injEq] at e
    obtain ⟨rfl, rfl, rfl⟩ := e
    have ⟨h1, h2⟩ := pcs_at (xss := xss) (vl := vl) hk
    exact ⟨g, rfl, (Array.getElem?_eq_some_iff.1 hg).1, by rw [World.ownsRow.cellAt h.own (k*2) (by omega), h1], by rw [World.ownsRow.cellAt h.own (k*2+1) (by omega), h2]⟩
/-- one part more at the end -/
theorem SumP.snoc {w w' : World} {B C : Nat} {v v' : Value} {vl : List Value} {xss : List (List Int)} {u : Value} {r : List Int} (h : SumP w B v vl xss) (hr : OwnI w C u r) (hBC : B ≤ C) (hvC : ∀ c, v.ownBlock = some c → c < C) (hrC : ∀ k, k < xss.length → ∀ c, (valAt vl k).ownBlock = some c → c < C)
    (ho : w'.ownsRow B 83 2 v' (xss.length + 1) (pcs xss vl xss.length ++ [.int .i64 (totR r), u])) (hg : w.grownBy w' v.ownBlock) (hv' : v'.ownBlock = v.ownBlock ∨ ∃ m, w.heap.size ≤ m ∧ v'.ownBlock = some m) : SumP w' B v' (vl ++ [u]) (xss ++ [r]) := by
  have hl := h.vlen
  have e1 : ∀ k, k < xss.length → valAt (vl ++ [u]) k = valAt vl k := fun k hk => by rw [valAt, valAt, List.getD_eq_getElem?_getD, List.getD_eq_getElem?_getD, List.getElem?_append_left (by omega)]
  have e2 : valAt (vl ++ [u]) xss.length = u := by rw [← hl]; exact valAt_end vl u
  have hur := hr.lt
  refine ⟨?_, by simp [hl], fun k hk => ?_, fun k hk c hc hc2 => ?_, fun j k hjk hk c hc => ?_⟩
  · rw [List.length_append, List.length_singleton, pcs, e2, rowL_last, pcs_congr (yss := xss) (ul := vl) (fun j hj => ⟨rowL_app hj, e1 j hj⟩)]
    exact ho
  · rw [List.length_append, List.length_singleton] at hk
    by_cases e : k = xss.length
    · subst e
      rw [e2, rowL_last]
      exact (hr.mono hBC).kept hg (own_ne (fun c h1 h3 => by have := hvC c h3; have := (hur c h1).1; omega))
    · rw [e1 k (by omega), rowL_app (by omega)]
      exact (h.row k (by omega)).kept hg (own_ne (fun c h1 h3 => h.apart k (by omega) c h1 h3))
  · rw [List.length_append, List.length_singleton] at hk
    by_cases e : k = xss.length
    · subst e
      rw [e2] at hc
      have h1 := hur c hc
      rcases hv' with h3 | ⟨m, hm, h3⟩
      · rw [h3] at hc2; have := hvC c hc2; omega
      · rw [h3] at hc2; simp only [Option.some.injEq] at hc2; omega
    · rw [e1 k (by omega)] at hc
      have h1 := ((h.row k (by omega)).lt c hc).2
      rcases hv' with h3 | ⟨m, hm, h3⟩
      · rw [h3] at hc2; exact h.apart k (by omega) c hc hc2
      · rw [h3] at hc2; simp only [Option.some.injEq] at hc2; omega
  · rw [List.length_append, List.length_singleton] at hk
    rw [e1 j (by omega)] at hc
    by_cases e : k = xss.length
    · subst e
      rw [e2]
      intro h3
      have := hrC j (by omega) c hc
      have := (hur c h3).1
      omega
    · rw [e1 k (by omega)]
      exact h.pair j k hjk (by omega) c hc

/-- the first of two cells that may be written has been written -/
theorem Var2.set0 {w : World} {b : Nat} {u v : Value} (h : Var2 w b u v) (u' : Value) : Var2 (w.setCell ⟨b, 0, none⟩ u') b u' v := by
  refine ⟨⟨by simpa using h.1.1, ?_, ?_⟩, by simpa using h.2.1, by simpa using h.2.2⟩
  · rw [World.cell?_setCell_same _ _ _ h.1.2.1]
  · rw [World.cell?_setCell_other _ _ _ _ (by simp)]; exact h.1.2.2
def addV (s x : Int) : Int := if addB s x = true then s + x else s
theorem iPut_any (b : Nat) (s x : Int) (v : Value) (ys : List Int) (w : World) (hv : Var2 w b (.int .i64 s) v) (h0 : 0 ≤ s ∧ s ≤ 12) (ho : OwnI w (b+1) v ys) (h63 : ys.length ≤ 1048576) :
    Calls Try.prog 86 #[.pointer (some ⟨b, 0, none⟩), .int .i64 x, .int .i64 x] w fun e w' => e = .returned (.bool (addB s x)) ∧ ∃ v', Var2 w' b (.int .i64 (addV s x)) v' ∧ OwnI w' (b+1) v' (ys ++ [x]) ∧ Below b w w' := by
  have ⟨⟨z, c, d⟩, f, g⟩ := hv
  have HV := Lib.hid hv
  obtain ⟨av, cv, rfl⟩ := ho.form
  have HO := Lib.hid ho
  clear hv ho
  go_enter Try.func86, Try.ntmps86
  go_wp2_with (at_builtin; refine push_at rfl _ _ rfl (z := x) rfl HO.out rfl (by omega) (by omega) ?_)
  intro v3 w3 o3 hg hat
  have hU := HO.out.lt
  have hv3 := HV.out.kept hg (ne_own (fun c e => by have := (hU c e).1; omega))
  have b3 : Below b w w3 := below_of_grown hg (fun c e => by have := (hU c e).1; omega) (by omega)
  have ⟨⟨z3, c3, d3⟩, f3, g3⟩ := hv3
  clear hg hat hU
  obtain ⟨a3, k3, rfl⟩ := o3.form
  rw [show (ys ++ [x]).length = ys.length + 1 by simp] at o3 ⊢
  go_wp2_with fail
  have hv4 := hv3.set1 (.slice a3 (ys.length + 1) k3)
  refine (iAdd_any b s x _ _ hv4 h0).mono ?_
  rintro e w5 ⟨rfl, hw5⟩
  have H : Hid (∃ v', Var2 w5 b (.int .i64 (addV s x)) v' ∧ OwnI w5 (b+1) v' (ys ++ [x]) ∧ Below b w w5) := by
    rw [hw5, addW, addV]
    cases addB s x
    · exact ⟨.slice a3 (ys.length + 1) k3, by simpa using hv4, by simpa using o3.setBelow (show b < b + 1 by omega) _, by simpa using b3.setCell (Nat.le_refl _) _⟩
    · exact ⟨.slice a3 (ys.length + 1) k3, by simpa using hv4.set0 _, by simpa using (o3.setBelow (show b < b + 1 by omega) _).setBelow (show b < b + 1 by omega) _, by simpa using (b3.setCell (Nat.le_refl _) _).setCell (Nat.le_refl _) _⟩
  clear hw5 hv4
  go_wp2_with fail
  go_ret
  exact ⟨rfl, H.out⟩

set_option maxRecDepth 100000 in
theorem iPutS_any (b : Nat) (s x : Int) (v : Value) (vl : List Value) (xss : List (List Int)) (r : List Int) (ra : Option Addr) (rc B C : Nat) (w : World) (hv : Var2 w b (.int .i64 s) v) (h0 : 0 ≤ s ∧ s ≤ 12)
    (hp : SumP w B v vl xss) (hr : OwnI w C (.slice ra r.length rc) r) (hbB : b + 1 ≤ B) (hBC : B ≤ C) (hC : C ≤ w.heap.size) (hvC : ∀ c, v.ownBlock = some c → c < C) (hrC : ∀ k, k < xss.length → ∀ c, (valAt vl k).ownBlock = some c → c < C) (h63 : xss.length ≤ 1048576) :
    Calls Try.prog 87 #[.pointer (some ⟨b, 0, none⟩), .agg #[.int .i64 (totR r), .slice ra r.length rc], .int .i64 x] w fun e w' => e = .returned (.bool (addB s x)) ∧ ∃ v', Var2 w' b (.int .i64 (addV s x)) v' ∧ SumP w' B v' (vl ++ [.slice ra r.length rc]) (xss ++ [r]) ∧ Below b w w' := by
  obtain ⟨i0, hi, hz0, hz1, hz2⟩ := info_parts infoSum
  have ⟨⟨z, c, d⟩, f, g⟩ := hv
  have HV := Lib.hid hv
  obtain ⟨av, cv, rfl⟩ := hp.form
  have HP := Lib.hid hp
  have HR := Lib.hid hr
  have HB := Lib.hid hvC
  have HRB := Lib.hid hrC
  have Hown := Lib.hid (ownsRow_bel hp.own (w' := ((w.alloc (.cells #[.int .i64 (totR r), .slice ra r.length rc] 83)).alloc (.cells #[.int .i64 (totR r), .slice ra r.length rc] 83)).drew) ((((Below.refl _ _).alloc (Nat.le_refl _) _).alloc (by simp) _).drew) (Nat.le_refl _))
  have hnews := cell_two_new (w.alloc (.cells #[.int .i64 (totR r), .slice ra r.length rc] 83)) (.int .i64 (totR r)) (.slice ra r.length rc) 83
  simp only [World.size_alloc] at hnews
  have Hnews := Lib.hid hnews
  have hpl := pcs_len xss vl xss.length
  have HPL := Lib.hid hpl
  clear hv hp hr hnews hvC hrC hpl
  obtain ⟨PC, hPC⟩ : ∃ PC, PC = pcs xss vl xss.length := ⟨_, rfl⟩
  have HPC := Lib.hid hPC
  rw [← hPC] at Hown HPL
  clear hPC
  obtain ⟨T, hT⟩ : ∃ T, T = totR r := ⟨_, rfl⟩
  have HT := Lib.hid hT
  rw [← hT] at Hown Hnews ⊢
  clear hT
  go_enter Try.func87, Try.ntmps87
  go_wp2_with fail
  go_region_law (refine step_append_lies _ (by rfl) _ _ _ (by rfl) B 83 i0 (.agg #[.int .i64 0, .slice none 0 0]) 2 32 Try.underlying62 hi hz0 hz1 hz2 rfl (by omega) (.slice av xss.length cv) xss.length PC (by rfl) Hown.out ⟨w.heap.size + 1, 0, none⟩ 1 1 [.int .i64 T, .slice ra r.length rc] (by rfl) (by rfl) Hnews.out (by intro u hu; simp at hu; rcases hu with rfl | rfl <;> rfl) (by omega) (by unfold maxLen; omega) (by omega) (by simp; omega) (w.heap.size + 2) (by simp) ?_; intro gg cap3 w3 hown3 hgrow hat hlt3; have hg2 : w.grownBy w3 (Value.slice av xss.length cv).ownBlock := grown_alloc_set (grown_alloc_set (o := .cells #[.int .i64 T, .slice ra r.length rc] 83) ⟨hgrow.os, hgrow.tape, hgrow.output, hgrow.size, hgrow.block⟩); have hv3 := HV.out.kept hg2 (ne_own (fun c e => by have := (HP.out.lt c e).1; omega)); have ⟨⟨z3, c3, d3⟩, f3, g3⟩ := hv3)
  all_goals
    have hp3 : SumP w3 B (.slice (some ⟨gg, 0, none⟩) (xss.length + 1) cap3) (vl ++ [.slice ra r.length rc]) (xss ++ [r]) := by
      refine HP.out.snoc HR.out hBC HB.out HRB.out ?_ hg2 ?_
      · rw [← HPC.out, ← HT.out]; exact hown3
      · rcases hat with h | h
        · exact .inl (by rw [h]; rfl)
        · exact .inr ⟨gg, by omega, rfl⟩
    have b3 : Below b w w3 := below_of_grown hg2 (fun c e => by have := (HP.out.lt c e).1; omega) (by omega)
    have hv4 := hv3.set1 (.slice (some ⟨gg, 0, none⟩) (xss.length + 1) cap3)
    clear hown3 hgrow hat hg2
    go_wp2_with fail
    refine (iAdd_any b s x _ _ hv4 h0).mono ?_
    rintro e w5 ⟨rfl, hw5⟩
    have hset : ∀ (p : Addr) (u : Value) (w9 : World), p.block = b → SumP w9 B (.slice (some ⟨gg, 0, none⟩) (xss.length + 1) cap3) (vl ++ [.slice ra r.length rc]) (xss ++ [r]) → SumP (w9.setCell p u) B (.slice (some ⟨gg, 0, none⟩) (xss.length + 1) cap3) (vl ++ [.slice ra r.length rc]) (xss ++ [r]) := fun p u w9 e h =>
      ⟨ownsRow_setCell_below h.own (by rw [e]; omega) u, h.vlen, fun k hk => (h.row k hk).setBelow (by rw [e]; omega) u, h.apart, h.pair⟩
    have H : Hid (∃ v', Var2 w5 b (.int .i64 (addV s x)) v' ∧ SumP w5 B v' (vl ++ [.slice ra r.length rc]) (xss ++ [r]) ∧ Below b w w5) := by
      rw [hw5, addW, addV]
      cases addB s x
      · exact ⟨.slice (some ⟨gg, 0, none⟩) (xss.length + 1) cap3, by simpa using hv4, by simpa using hset _ _ _ rfl hp3, by simpa using b3.setCell (Nat.le_refl _) _⟩
      · exact ⟨.slice (some ⟨gg, 0, none⟩) (xss.length + 1) cap3, by simpa using hv4.set0 _, by simpa using hset _ _ _ rfl (hset _ _ _ rfl hp3), by simpa using (b3.setCell (Nat.le_refl _) _).setCell (Nat.le_refl _) _⟩
    clear hw5 hv4 hset hp3
    go_wp2_with fail
    go_ret
    exact ⟨rfl, H.out⟩

theorem add_ok {s x : Int} (h : addB s x = true) : addV s x = s + x := by rw [addV, if_pos h]
/-- the first k rows may be rows -/
def adTo (xss : List (List Int)) (k : Nat) : Prop := ∀ i, i < k → (∀ j, j < (rowL xss i).length → 0 ≤ nth (rowL xss i) j) ∧ 0 < totR (rowL xss i)
theorem ad_no_num {xss : List (List Int)} {k j : Nat} (hk : k < xss.length) (hj : j < (rowL xss k).length) (hpre : ∀ i, i < j → 0 ≤ nth (rowL xss k) i) (h : addB (totI (rowL xss k) j) (nth (rowL xss k) j) = false) : adB xss = false := by
  rw [← Bool.not_eq_true]
  intro h2
  have ⟨h3, h4⟩ := adB_iff.1 h2
  have h5 := (adB_row h2 hk).2
  have h6 := totI_mono (xs := rowL xss k) (j := j + 1) (k := (rowL xss k).length) (by omega) (h3 k hk).1
  rw [totR] at h5
  rw [totI] at h6
  rw [← Bool.not_eq_true, addB_iff] at h
  exact h ⟨(h3 k hk).1 j hj, by omega⟩
theorem ad_no_row {xss : List (List Int)} {k : Nat} (hk : k < xss.length) (h : addB (matS xss k) (totR (rowL xss k)) = false) : adB xss = false := by
  rw [← Bool.not_eq_true]
  intro h2
  have ⟨h3, h4⟩ := adB_iff.1 h2
  have h5 := adB_row h2 hk
  have h6 := matS_mono (xss := xss) (j := k + 1) (k := xss.length) (by omega) (fun i hi => by have := (h3 i hi).2; omega)
  rw [matS] at h6
  rw [← Bool.not_eq_true, addB_iff] at h
  exact h ⟨by omega, by omega⟩
set_option maxRecDepth 100000 in
set_option maxHeartbeats 1000000 in
theorem iAddUp_any (a : Option Addr) (xss : List (List Int)) (cap : Nat) (w : World) (hx : RdS w a xss) (hs : xss.length + totS xss xss.length ≤ 1048576) :
    Calls Try.prog 73 #[.slice a xss.length cap] w fun e w' => ∃ s va vn vc, e = .returned (.tuple #[.agg #[.int .i64 s, .slice va vn vc], .bool (adB xss)]) ∧ (adB xss = true → s = matS xss xss.length ∧ ∃ vl, SumP w' w.heap.size (.slice va vn vc) vl xss) ∧ Below w.heap.size w w' := by
  have hlen := hx.len
  have HX := Lib.hid hx
  have HS := Lib.hid hs
  go_enter Try.func73, Try.ntmps73
  clear hx hs
  go_wp2_with fail
  go_loopw [12] (fun i wr => ∃ (k : Nat) (v : Value) (vl : List Value), k ≤ xss.length ∧ i = .int .i64 k ∧ Hid (adTo xss k) ∧ 0 ≤ matS xss k ∧ matS xss k ≤ 12 ∧ Var2 wr w.heap.size (.int .i64 0) (.slice none 0 0) ∧ Var2 wr (w.heap.size + 1) (.int .i64 (matS xss k)) v ∧ SumP wr (w.heap.size + 2) v vl (xss.take k) ∧ Below w.heap.size w wr) (fun i _ => xss.length - (intOf i).toNat)
  case atStart => exact ⟨0, .slice none 0 0, [], Nat.zero_le _, rfl, fun j hj => by omega, by simp [matS], by simp [matS], (Var2.new w _ _ _).alloc _, by have h := Var2.new (w.alloc (.cells #[.int .i64 0, .slice none 0 0] 64)) (.int .i64 0) (.slice none 0 0) 64; rw [World.size_alloc] at h; exact h, by rw [List.take_zero]; exact SumP.nil _ _, (by repeat (first | exact Below.refl _ _ | assumption | refine Below.alloc ?_ (by first | exact Nat.le_refl _ | (simp only [World.size_alloc, World.size_setCell, World.size_drew]; omega) | omega) _ | refine Below.setCell ?_ (by first | exact Nat.le_refl _ | (simp only [World.size_alloc, World.size_setCell, World.size_drew]; omega) | omega) _ | refine Below.drew ?_))⟩
  case round =>
    obtain ⟨k, v, vl, hk, rfl, HAD, hm0, hm1, hR, hA, hp, hb⟩ := hrel
    have ⟨av, cv, ev⟩ := hp.form
    obtain ⟨LK, hLK⟩ : ∃ LK, LK = (xss.take k).length := ⟨_, rfl⟩
    rw [← hLK] at ev
    subst ev
    clear hLK
    have hbs := hb.size
    have ⟨⟨zR, cR, dR⟩, fR, gR⟩ := hR
    have ⟨⟨zA, cA, dA⟩, fA, gA⟩ := hA
    have HR := Lib.hid hR
    have HA := Lib.hid hA
    have HP := Lib.hid hp
    by_cases hlt : k < xss.length
    · obtain ⟨b, off, a', cap', rfl, hbl, hc, hr⟩ := (HX.out.below hb).row k hlt
      have k1 : (k : Int) < (xss.length : Int) := by omega
      have hrl := hr.len
      have hrt := row_tot (xss := xss) hlt
      have hrow : (rowL xss k).length ≤ 1048576 := by have := HS.out; omega
      have HRD := Lib.hid hr
      have HT : Hid (xss.take (k+1) = xss.take k ++ [rowL xss k]) := take_snocR hlt
      have HTL : Hid ((xss.take k).length = k) := by rw [Hid, List.length_take]; omega
      have HNR : Hid (∀ j, j < (rowL xss k).length → (∀ i, i < j → 0 ≤ nth (rowL xss k) i) → addB (totI (rowL xss k) j) (nth (rowL xss k) j) = false → adB xss = false) := fun j hj => ad_no_num hlt hj
      have HNM : Hid (addB (matS xss k) (totR (rowL xss k)) = false → adB xss = false) := ad_no_row hlt
      have HNZ : Hid (totR (rowL xss k) = 0 → adB xss = false) := fun h => by
        rw [← Bool.not_eq_true]; intro h2
        have := (adB_row h2 hlt).1; omega
      have HMN : Hid (matS xss (k+1) = matS xss k + totR (rowL xss k)) := rfl
      have HGD : Hid ((∀ j, j < (rowL xss k).length → 0 ≤ nth (rowL xss k) j) → 0 < totR (rowL xss k) → adTo xss (k+1)) := fun h1 h2 i hi => by
        by_cases e : i = k
        · rw [e]; exact ⟨h1, h2⟩
        · exact HAD.out i (by omega)
      obtain ⟨R, hR9⟩ : ∃ R, R = rowL xss k := ⟨_, rfl⟩
      rw [← hR9] at hc hrl hrow HRD HT HNR HNM HNZ HMN HGD
      obtain ⟨M, hM9⟩ : ∃ M, M = matS xss k := ⟨_, rfl⟩
      rw [← hM9] at hm0 hm1 HA cA HNM HMN
      clear hr hrt hR9 hM9 hR hA hp HAD
      obtain ⟨W1, hW1⟩ : ∃ x : World, x = wr := ⟨_, rfl⟩
      subst hW1
      go_wp2_with fail
      go_loopw [18] (fun i wr => ∃ (j : Nat) (u : Value), j ≤ R.length ∧ i = .int .i64 j ∧ Hid (∀ i, i < j → 0 ≤ nth R i) ∧ 0 ≤ totI R j ∧ totI R j ≤ 12 ∧ Var2 wr W1.heap.size (.int .i64 (totI R j)) u ∧ OwnI wr (W1.heap.size + 1) u (R.take j) ∧ Below W1.heap.size W1 wr) (fun i _ => R.length - (intOf i).toNat)
      case atStart => exact ⟨0, .slice none 0 0, Nat.zero_le _, rfl, fun j hj => by omega, by simp [totI], by simp [totI], Var2.new W1 _ _ _, by rw [List.take_zero]; exact OwnI.nil _ _, (by repeat (first | exact Below.refl _ _ | assumption | refine Below.alloc ?_ (by first | exact Nat.le_refl _ | (simp only [World.size_alloc, World.size_setCell, World.size_drew]; omega) | omega) _ | refine Below.setCell ?_ (by first | exact Nat.le_refl _ | (simp only [World.size_alloc, World.size_setCell, World.size_drew]; omega) | omega) _ | refine Below.drew ?_))⟩
      case round =>
        obtain ⟨j, u, hj, rfl, HNN, ht0, ht1, hQ, ho, hbq⟩ := hrel
        have hbqs := hbq.size
        have ⟨⟨zQ, cQ, dQ⟩, fQ, gQ⟩ := hQ
        have hR2 := HR.out.below hbq
        have hA2 := HA.out.below hbq
        have ⟨⟨zR2, cR2, dR2⟩, fR2, gR2⟩ := hR2
        have ⟨⟨zA2, cA2, dA2⟩, fA2, gA2⟩ := hA2
        have HR2 := Lib.hid hR2
        have HA2 := Lib.hid hA2
        clear hR2 hA2
        by_cases hlt2 : j < R.length
        · obtain ⟨b2, off2, rfl, hbl2, hc2⟩ := (HRD.out.below hbq).cell j hlt2
          have j1 : (j : Int) < (R.length : Int) := by omega
          have htk : R.take (j+1) = R.take j ++ [nth R j] := by
            rw [List.take_succ_eq_append_getElem hlt2, nth_get _ _ hlt2]
          have HTK := Lib.hid htk
          have hlj : (R.take j).length ≤ 1048576 := by rw [List.length_take]; omega
          have HTI : Hid (totI R (j+1) = totI R j + nth R j) := rfl
          have HNF := Lib.hid (HNR.out j hlt2 HNN.out)
          obtain ⟨Z, hZ⟩ : ∃ Z, Z = nth R j := ⟨_, rfl⟩
          have HZ := Lib.hid hZ
          rw [← hZ] at hc2 HTK HTI HNF
          obtain ⟨S, hS⟩ : ∃ S, S = totI R j := ⟨_, rfl⟩
          rw [← hS] at ht0 ht1 cQ hQ HTI HNF
          have HQ := Lib.hid hQ
          have HO := Lib.hid ho
          have hPut := iPut_any W1.heap.size S Z u (R.take j) wr HQ.out ⟨ht0, ht1⟩ HO.out hlj
          have HPUT := Lib.hid hPut
          clear htk hZ hS hQ ho hPut
          cases had : addB S Z
          · have H := HNF.out had
            have HF := Lib.hid had
            have HH := Lib.hid H
            clear had H
            go_wp2_with fail
            refine HPUT.out.mono ?_
            rintro e w5 ⟨rfl, v5, hv5, ho5, hb5⟩
            rw [HF.out]
            have b5 : Below W1.heap.size W1 w5 := hbq.trans hb5
            have hR5 := HR.out.below b5
            have hA5 := HA.out.below b5
            have ⟨⟨zR5, cR5, dR5⟩, fR5, gR5⟩ := hR5
            have ⟨⟨zA5, cA5, dA5⟩, fA5, gA5⟩ := hA5
            have bw5 := hb.trans (b5.mono hbs)
            clear hv5 ho5 hb5
            go_wp2_with fail
            have hR7 := hR5.set (.int .i64 M) (.slice av LK cv)
            have b7 := (bw5.setCell (p := ⟨w.heap.size, 0, none⟩) (Nat.le_refl _) (.int .i64 M)).setCell (p := ⟨w.heap.size, 1, none⟩) (Nat.le_refl _) (.slice av LK cv)
            refine bodyPost_ret (v := .tuple #[.agg #[.int .i64 M, .slice av LK cv], .bool false]) (by have ⟨⟨_, q1, q2⟩, _, _⟩ := hR7; simp [results, Try.results73, go_sem, q1, q2]) rfl ?_
            exact ⟨M, av, LK, cv, by rw [HH.out], (by intro h; rw [HH.out] at h; cases h), b7⟩
          · have hge := addB_iff.1 had
            have HF := Lib.hid had
            have HV := Lib.hid (add_ok had)
            clear had HNF
            go_wp2_with fail
            refine HPUT.out.mono ?_
            rintro e w5 ⟨rfl, v5, hv5, ho5, hb5⟩
            rw [HF.out]
            rw [HV.out] at hv5
            have b5 : Below W1.heap.size W1 w5 := hbq.trans hb5
            go_wp2_with fail
            go_roundw
            case rel =>
              refine ⟨j + 1, v5, by omega, by go_num, fun i hi => ?_, by rw [HTI.out]; omega, by rw [HTI.out]; omega, by rw [HTI.out]; exact hv5, by rw [HTK.out]; exact ho5, b5⟩
              by_cases e : i = j
              · rw [e, ← HZ.out]; omega
              · exact HNN.out i (by omega)
            case measure => simp [intOf]; omega
        · obtain rfl : j = R.length := by omega
          have HTR : Hid (totI R R.length = totR R) := rfl
          rw [HTR.out] at ht0 ht1 cQ hQ
          rw [List.take_length] at ho
          obtain ⟨au, cu, rfl⟩ := ho.form
          have HO := Lib.hid ho
          have HP2 := Lib.hid (HP.out.below hbq (Nat.le_refl _))
          obtain ⟨S, hS⟩ : ∃ S, S = totR R := ⟨_, rfl⟩
          have HSS := Lib.hid hS
          rw [← hS] at ht0 ht1 cQ hQ HNM HNZ HMN HGD
          have HQ := Lib.hid hQ
          have hlk : (xss.take k).length ≤ 1048576 := by rw [HTL.out]; have := HS.out; omega
          have bwq := hb.trans (hbq.mono hbs)
          clear hS hQ ho
          by_cases hz : S = 0
          · have hzz : (S == 0) = true := by simp [hz]
            have HH := Lib.hid (HNZ.out hz)
            clear hz
            go_wp2_with fail
            have hR7 := HR2.out.set (.int .i64 M) (.slice av LK cv)
            have b7 := (bwq.setCell (p := ⟨w.heap.size, 0, none⟩) (Nat.le_refl _) (.int .i64 M)).setCell (p := ⟨w.heap.size, 1, none⟩) (Nat.le_refl _) (.slice av LK cv)
            refine bodyPost_ret (v := .tuple #[.agg #[.int .i64 M, .slice av LK cv], .bool false]) (by have ⟨⟨_, q1, q2⟩, _, _⟩ := hR7; simp [results, Try.results73, go_sem, q1, q2]) rfl ?_
            exact ⟨M, av, LK, cv, by rw [HH.out], (by intro h; rw [HH.out] at h; cases h), b7⟩
          · have hzz : (S == 0) = false := by simp [hz]
            have hPut := iPutS_any (w.heap.size + 1) M S (.slice av LK cv) vl (xss.take k) R au cu (w.heap.size + 2) (W1.heap.size + 1) wr HA2.out ⟨hm0, hm1⟩ HP2.out HO.out (by omega) (by omega) (by omega) (fun c e => by have := HP.out.blk.1 c e; omega) (fun i hi c e => by have := HP.out.blk.2 i hi c e; omega) hlk
            rw [← HSS.out] at hPut
            have HPUT := Lib.hid hPut
            clear hPut
            cases had : addB M S
            · have HF := Lib.hid had
              have HH := Lib.hid (HNM.out had)
              clear had hz
              go_wp2_with fail
              refine HPUT.out.mono ?_
              rintro e w5 ⟨rfl, v5, hv5, ho5, hb5⟩
              rw [HF.out]
              have ⟨⟨zA5, cA5, dA5⟩, fA5, gA5⟩ := hv5
              have hR5 : Var2 w5 w.heap.size (.int .i64 0) (.slice none 0 0) := ⟨⟨by have := hb5.size; omega, (hb5.cell (p := ⟨w.heap.size, 0, none⟩) (show w.heap.size < w.heap.size + 1 by omega)).trans cR2, (hb5.cell (p := ⟨w.heap.size, 1, none⟩) (show w.heap.size < w.heap.size + 1 by omega)).trans dR2⟩, (hb5.frozen (p := ⟨w.heap.size, 0, none⟩) (show w.heap.size < w.heap.size + 1 by omega)).trans fR2, (hb5.frozen (p := ⟨w.heap.size, 1, none⟩) (show w.heap.size < w.heap.size + 1 by omega)).trans gR2⟩
              have ⟨⟨zR5, cR5, dR5⟩, fR5, gR5⟩ := hR5
              have bw5 := bwq.trans (hb5.mono (by omega : w.heap.size ≤ w.heap.size + 1))
              obtain ⟨D, hD⟩ : ∃ D, D = addV M S := ⟨_, rfl⟩
              rw [← hD] at cA5
              obtain ⟨a5, c5, e5⟩ := ho5.form
              obtain ⟨L5, hL5⟩ : ∃ L5, L5 = (xss.take k ++ [R]).length := ⟨_, rfl⟩
              rw [← hL5] at e5
              rw [e5] at dA5
              clear hL5 e5
              clear hv5 ho5 hb5 hD
              go_wp2_with fail
              have hR7 := hR5.set (.int .i64 D) (.slice a5 L5 c5)
              have b7 := (bw5.setCell (p := ⟨w.heap.size, 0, none⟩) (Nat.le_refl _) (.int .i64 D)).setCell (p := ⟨w.heap.size, 1, none⟩) (Nat.le_refl _) (.slice a5 L5 c5)
              refine bodyPost_ret (v := .tuple #[.agg #[.int .i64 D, .slice a5 L5 c5], .bool false]) (by have ⟨⟨_, q1, q2⟩, _, _⟩ := hR7; simp [results, Try.results73, go_sem, q1, q2]) rfl ?_
              exact ⟨D, a5, L5, c5, by rw [HH.out], (by intro h; rw [HH.out] at h; cases h), b7⟩
            · have hge := addB_iff.1 had
              have HF := Lib.hid had
              have HV := Lib.hid (add_ok had)
              clear had
              go_wp2_with fail
              refine HPUT.out.mono ?_
              rintro e w5 ⟨rfl, v5, hv5, ho5, hb5⟩
              rw [HF.out]
              rw [HV.out] at hv5
              have hR5 : Var2 w5 w.heap.size (.int .i64 0) (.slice none 0 0) := ⟨⟨by have := hb5.size; omega, (hb5.cell (p := ⟨w.heap.size, 0, none⟩) (show w.heap.size < w.heap.size + 1 by omega)).trans cR2, (hb5.cell (p := ⟨w.heap.size, 1, none⟩) (show w.heap.size < w.heap.size + 1 by omega)).trans dR2⟩, (hb5.frozen (p := ⟨w.heap.size, 0, none⟩) (show w.heap.size < w.heap.size + 1 by omega)).trans fR2, (hb5.frozen (p := ⟨w.heap.size, 1, none⟩) (show w.heap.size < w.heap.size + 1 by omega)).trans gR2⟩
              have bw5 := bwq.trans (hb5.mono (by omega : w.heap.size ≤ w.heap.size + 1))
              have HG2 := Lib.hid (HGD.out HNN.out (by omega))
              go_wp2_with fail
              go_roundw
              case rel => exact ⟨k + 1, v5, _, by omega, by go_num, HG2.out, by rw [HMN.out]; omega, by rw [HMN.out]; omega, hR5, by rw [HMN.out]; exact hv5, by rw [HT.out]; exact ho5, bw5⟩
              case measure => simp [intOf]; omega
    · obtain rfl : k = xss.length := by omega
      have HH : Hid (adB xss = true) := adB_iff.2 ⟨HAD.out, hm1⟩
      obtain ⟨M, hM9⟩ : ∃ M, M = matS xss xss.length := ⟨_, rfl⟩
      have HM := Lib.hid hM9
      rw [← hM9] at hm0 hm1 HA cA
      clear hM9 hR hA hp
      go_wp2_with fail
      have hR7 := HR.out.set (.int .i64 M) (.slice av LK cv)
      have b7 := (hb.setCell (p := ⟨w.heap.size, 0, none⟩) (Nat.le_refl _) (.int .i64 M)).setCell (p := ⟨w.heap.size, 1, none⟩) (Nat.le_refl _) (.slice av LK cv)
      refine bodyPost_ret (v := .tuple #[.agg #[.int .i64 M, .slice av LK cv], .bool true]) (by have ⟨⟨_, q1, q2⟩, _, _⟩ := hR7; simp [results, Try.results73, go_sem, q1, q2]) rfl ?_
      refine ⟨M, av, LK, cv, by rw [HH.out], fun _ => ⟨HM.out, vl, ?_⟩, b7⟩
      have h := HP.out
      rw [List.take_length] at h
      have hset : ∀ (p : Addr) (u : Value) (w9 : World), p.block = w.heap.size → SumP w9 (w.heap.size + 2) (.slice av LK cv) vl xss → SumP (w9.setCell p u) (w.heap.size + 2) (.slice av LK cv) vl xss := fun p u w9 e h =>
        ⟨ownsRow_setCell_below h.own (by rw [e]; omega) u, h.vlen, fun k hk => (h.row k hk).setBelow (by rw [e]; omega) u, h.apart, h.pair⟩
      exact (hset _ _ _ rfl (hset _ _ _ rfl h)).mono (by omega)

set_option maxRecDepth 100000 in
theorem isUpper_any (a : Option Addr) (xss : List (List Int)) (cap : Nat) (w : World) (hx : RdC w a xss) :
    Calls Try.prog 74 #[.agg #[.slice a xss.length cap]] w fun e w' => e = .returned (.bool (upB xss)) ∧ Below w.heap.size w w' := by
  have hlen := hx.rd.len
  have HX := Lib.hid hx
  have b1 : Below w.heap.size w (w.alloc (.cells #[.slice a xss.length cap] 29)) := (by repeat (first | exact Below.refl _ _ | assumption | refine Below.alloc ?_ (by first | exact Nat.le_refl _ | (simp only [World.size_alloc, World.size_setCell, World.size_drew]; omega) | omega) _ | refine Below.setCell ?_ (by first | exact Nat.le_refl _ | (simp only [World.size_alloc, World.size_setCell, World.size_drew]; omega) | omega) _ | refine Below.drew ?_))
  clear hx
  go_enter Try.func74, Try.ntmps74
  go_wp2_with fail
  go_loop [10] (fun i => ∃ k : Nat, k ≤ xss.length ∧ i = .int .i64 k ∧ Hid (∀ j, j < k → (rowL xss j).length = xss.length ∧ ∀ q, q < j → atM xss j q = 0)) (fun i => xss.length - (intOf i).toNat)
  case atStart => exact ⟨0, Nat.zero_le _, rfl, fun j hj => by omega⟩
  case round =>
    obtain ⟨k, hk, rfl, HA⟩ := hrel
    by_cases hlt : k < xss.length
    · obtain ⟨b, off, a', cap', rfl, hbl, hc, hr, hcp⟩ := (HX.out.below b1).row hlt
      have k1 : (k : Int) < (xss.length : Int) := by omega
      by_cases hq : (rowL xss k).length = xss.length
      · have hqq : (((rowL xss k).length : Int) != (xss.length : Int)) = false := by simp [hq]
        have HQ := Lib.hid hq
        obtain ⟨b2, off2, rfl, hbl2, hc2⟩ := hr.cell 0 (by omega)
        have HR := Lib.hid hr
        have k2 : k ≤ cap' := by omega
        have k3 : k ≤ (rowL xss k).length := by omega
        have hrl := hr.len
        clear hq hr hc2
        go_wp2_with fail
        go_loop [25] (fun i => ∃ q : Nat, q ≤ k ∧ i = .int .i64 q ∧ Hid (∀ j, j < q → atM xss k j = 0)) (fun i => k - (intOf i).toNat)
        case atStart => exact ⟨0, Nat.zero_le _, rfl, fun j hj => by omega⟩
        case round =>
          obtain ⟨q, hq2, rfl, HU⟩ := hrel
          by_cases hlt2 : q < k
          · obtain ⟨b3, off3, e3, hbl3, hc3⟩ := HR.out.cell q (by omega)
            simp only [Option.some.injEq, Addr.mk.injEq, and_true] at e3
            obtain ⟨rfl, rfl⟩ := e3
            have q1 : (q : Int) < (k : Int) := by omega
            by_cases hz : nth (rowL xss k) q = 0
            · have hzz : (nth (rowL xss k) q != 0) = false := by simp [hz]
              have HZ : Hid (atM xss k q = 0) := hz
              clear hz
              go_wp2_with fail
              go_round
              case rel =>
                refine ⟨q + 1, by omega, by go_num, fun j hj => ?_⟩
                by_cases e : j = q
                · rw [e]; exact HZ.out
                · exact HU.out j (by omega)
              case measure => simp [intOf]; omega
            · have hzz : (nth (rowL xss k) q != 0) = true := by simp [hz]
              have H : Hid (upB xss = false) := by
                rw [Hid, ← Bool.not_eq_true, upB_iff]
                intro h
                exact hz ((h k hlt).2 q hlt2)
              clear hz
              go_wp2_with fail
              go_ret
              exact ⟨ret_bool H.out.symm, (by repeat (first | exact Below.refl _ _ | assumption | refine Below.alloc ?_ (by first | exact Nat.le_refl _ | (simp only [World.size_alloc, World.size_setCell, World.size_drew]; omega) | omega) _ | refine Below.setCell ?_ (by first | exact Nat.le_refl _ | (simp only [World.size_alloc, World.size_setCell, World.size_drew]; omega) | omega) _ | refine Below.drew ?_))⟩
          · obtain rfl : q = k := by omega
            go_wp2_with fail
            go_round
            case rel =>
              refine ⟨q + 1, by omega, by go_num, fun j hj => ?_⟩
              by_cases e : j = q
              · rw [e]; exact ⟨HQ.out, HU.out⟩
              · exact HA.out j (by omega)
            case measure => simp [intOf]; omega
      · have hqq : (((rowL xss k).length : Int) != (xss.length : Int)) = true := by simp; omega
        have H : Hid (upB xss = false) := by
          rw [Hid, ← Bool.not_eq_true, upB_iff]
          intro h
          exact hq (h k hlt).1
        clear hq hr
        go_wp2_with fail
        go_ret
        exact ⟨ret_bool H.out.symm, (by repeat (first | exact Below.refl _ _ | assumption | refine Below.alloc ?_ (by first | exact Nat.le_refl _ | (simp only [World.size_alloc, World.size_setCell, World.size_drew]; omega) | omega) _ | refine Below.setCell ?_ (by first | exact Nat.le_refl _ | (simp only [World.size_alloc, World.size_setCell, World.size_drew]; omega) | omega) _ | refine Below.drew ?_))⟩
    · obtain rfl : k = xss.length := by omega
      have H : Hid (upB xss = true) := upB_iff.2 HA.out
      go_wp2_with fail
      go_ret
      exact ⟨ret_bool H.out.symm, (by repeat (first | exact Below.refl _ _ | assumption | refine Below.alloc ?_ (by first | exact Nat.le_refl _ | (simp only [World.size_alloc, World.size_setCell, World.size_drew]; omega) | omega) _ | refine Below.setCell ?_ (by first | exact Nat.le_refl _ | (simp only [World.size_alloc, World.size_setCell, World.size_drew]; omega) | omega) _ | refine Below.drew ?_))⟩

theorem colsL_sq (xss : List (List Int)) : colsL xss = sqM (fun a b => atM xss b a) xss.length xss.length := rfl

def colF (xss : List (List Int)) (k q : Nat) (a b : Nat) : Int := if b < k ∨ (b = k ∧ a < q) then atM xss b a else 0
theorem colF_end {xss : List (List Int)} {n : Nat} : sqM (colF xss n 0) n n = sqM (fun a b => atM xss b a) n n :=
  sqM_congr (fun a ha b hb => by rw [colF, if_pos (.inl hb)])
theorem colF_next {xss : List (List Int)} {n k : Nat} : sqM (colF xss k n) n n = sqM (colF xss (k+1) 0) n n :=
  sqM_congr (fun a ha b hb => by
    rw [colF, colF]
    by_cases h : b < k + 1
    · rw [if_pos (by omega), if_pos (.inl h)]
    · rw [if_neg (by omega), if_neg (by omega)])
theorem colF_zero {xss : List (List Int)} {n : Nat} : sqM (fun _ _ => 0) n n = sqM (colF xss 0 0) n n :=
  sqM_congr (fun a ha b hb => by rw [colF, if_neg (by omega)])
theorem colF_step {xss : List (List Int)} {n k q : Nat} (hk : k < n) (hq : q < n) : setM (sqM (colF xss k q) n n) q k (atM xss k q) = sqM (colF xss k (q+1)) n n := by
  rw [setM_sq hq hk]
  refine sqM_congr (fun a ha b hb => ?_)
  rw [colF, colF]
  by_cases h : a = q ∧ b = k
  · obtain ⟨rfl, rfl⟩ := h
    rw [if_pos ⟨rfl, rfl⟩, if_pos (.inr ⟨rfl, by omega⟩)]
  · rw [if_neg h]
    by_cases h2 : b < k ∨ (b = k ∧ a < q)
    · rw [if_pos h2, if_pos (by omega)]
    · rw [if_neg h2, if_neg (by omega)]
set_option maxRecDepth 100000 in
set_option maxHeartbeats 1000000 in
theorem columnsOf_any (a : Option Addr) (xss : List (List Int)) (cap : Nat) (w : World) (hx : RdS w a xss) (h12 : xss.length ≤ 12) (hl : ∀ k, k < xss.length → (rowL xss k).length = xss.length) :
    Calls Try.prog 75 #[.agg #[.slice a xss.length cap]] w fun e w' => ∃ g vl, e = .returned (.slice (some ⟨g, 0, none⟩) xss.length xss.length) ∧ RowsP w' w.heap.size (.slice (some ⟨g, 0, none⟩) xss.length xss.length) vl (colsL xss) ∧ Below w.heap.size w w' := by
  have hlen := hx.len
  have HX := Lib.hid hx
  have HL := Lib.hid hl
  clear hx hl
  go_enter Try.func75, Try.ntmps75
  go_wp2_with fail
  refine (zeroRows_any xss.length _ h12).mono ?_
  rintro e w1 ⟨g, vl0, rfl, hro0, hb0⟩
  have b1 : Below w.heap.size w w1 := Below.trans (by repeat (first | exact Below.refl _ _ | assumption | refine Below.alloc ?_ (by first | exact Nat.le_refl _ | (simp only [World.size_alloc, World.size_setCell, World.size_drew]; omega) | omega) _ | refine Below.setCell ?_ (by first | exact Nat.le_refl _ | (simp only [World.size_alloc, World.size_setCell, World.size_drew]; omega) | omega) _ | refine Below.drew ?_)) (hb0.mono (by first | (simp only [World.size_alloc, World.size_setCell, World.size_drew]; omega) | omega))
  have hro1 := hro0.mono (B' := w.heap.size) (by simp)
  rw [colF_zero (xss := xss)] at hro1
  have hc0 := (hb0.cell (p := ⟨w.heap.size, 0, none⟩) (by simp)).trans (show _ = some (Value.slice a xss.length cap) by simp)
  have hs1 := b1.size
  obtain ⟨N, hN⟩ : ∃ N, N = xss.length := ⟨_, rfl⟩
  have HN := Lib.hid hN
  rw [← hN] at hlen h12 hro1 hc0 ⊢
  have HRO := Lib.hid hro1
  clear hro0 hro1 hb0 hN
  go_wp2_with fail
  go_loopw [15] (fun i wr => ∃ (k : Nat) (vl : List Value), k ≤ N ∧ i = .int .i64 k ∧ RowsP wr w.heap.size (.slice (some ⟨g, 0, none⟩) N N) vl (sqM (colF xss k 0) N N) ∧ Below w.heap.size w wr) (fun i _ => N - (intOf i).toNat)
  case atStart => exact ⟨0, _, Nat.zero_le _, rfl, HRO.out, b1⟩
  case round =>
    obtain ⟨k, vl, hk, rfl, hro, hb⟩ := hrel
    have hbs := hb.size
    have HR := Lib.hid hro
    clear hro
    by_cases hlt : k < N
    · obtain ⟨b, off, a', cap', rfl, hbl, hc, hr⟩ := HX.out.row k (by rw [← HN.out]; exact hlt)
      have hrn := HL.out k (by rw [← HN.out]; exact hlt)
      rw [← HN.out] at hrn
      obtain ⟨b2, off2, rfl, hbl2, hc2⟩ := hr.cell 0 (by omega)
      rw [hrn] at hc
      have hc1 := (hb.cell (p := ⟨b, off + k, none⟩) hbl).trans hc
      have HRN := Lib.hid hrn
      have HRD := Lib.hid hr
      have hbl1 : b < wr.heap.size := by omega
      have k1 : (k : Int) < (N : Int) := by omega
      clear hrn hr hc2 hc
      go_wp2_with fail
      go_loopw [22] (fun i wq => ∃ (q : Nat) (vl : List Value), q ≤ N ∧ i = .int .i64 q ∧ RowsP wq w.heap.size (.slice (some ⟨g, 0, none⟩) N N) vl (sqM (colF xss k q) N N) ∧ Below w.heap.size w wq) (fun i _ => N - (intOf i).toNat)
      case atStart => exact ⟨0, _, Nat.zero_le _, rfl, HR.out, hb⟩
      case round =>
        obtain ⟨q, vl2, hq, rfl, hro2, hb2⟩ := hrel
        by_cases hlt2 : q < N
        · obtain ⟨b3, off3, e3, hbl3, hc3⟩ := (HRD.out.below hb2).cell q (by rw [HRN.out]; exact hlt2)
          simp only [Option.some.injEq, Addr.mk.injEq, and_true] at e3
          obtain ⟨rfl, rfl⟩ := e3
          obtain ⟨g4, e4, hg4, hg5, hc4, hf4⟩ := hro2.outer (k := q) (by rw [sqM_len]; exact hlt2)
          simp only [Option.some.injEq, Addr.mk.injEq, and_true] at e4
          subst e4
          obtain ⟨g6, c6, e6, hg6, hg7, hc6, hf6, hnew⟩ := hro2.num (i := q) (j := k) (by rw [sqM_len]; exact hlt2) (by rw [sqM_rlen hlt2]; exact hlt)
          have hn2 := hnew (atM xss k q)
          rw [colF_step hlt hlt2] at hn2
          rw [e6, sqM_rlen hlt2] at hc4
          have HN2 := Lib.hid hn2
          have q1 : (q : Int) < (N : Int) := by omega
          have hat : nth (rowL xss k) q = atM xss k q := rfl
          rw [hat] at hc3
          have b7 := hb2.setCell (p := ⟨g6, k, none⟩) hg6 (.int .i64 (atM xss k q))
          clear hro2 hnew hn2 hat e6
          go_wp2_with fail
          go_roundw
          case rel => exact ⟨q + 1, vl2, by omega, by go_num, HN2.out, b7⟩
          case measure => simp [intOf]; omega
        · obtain rfl : q = N := by omega
          rw [colF_next] at hro2
          go_wp2_with fail
          go_roundw
          case rel => exact ⟨k + 1, _, by omega, by go_num, hro2, hb2⟩
          case measure => simp [intOf]; omega
    · obtain rfl : k = N := by omega
      have HR2 := HR.out
      rw [colF_end] at HR2
      have HE : Hid (colsL xss = sqM (fun a b => atM xss b a) k k) := by rw [Hid, colsL_sq, ← HN.out]
      have HR3 := Lib.hid HR2
      clear HR2
      go_wp2_with fail
      go_ret
      exact ⟨g, vl, by rw [← HN.out]; rfl, by rw [HE.out, ← HN.out]; exact HR3.out, hb⟩

theorem totS_sq {f : Nat → Nat → Int} {n m : Nat} : ∀ {k : Nat}, k ≤ n → totS (sqM f n m) k = k * m
  | 0, _ => by simp [totS]
  | k+1, h => by rw [totS, totS_sq (by omega), sqM_rlen (by omega), Nat.succ_mul]
theorem sq_small {f : Nat → Nat → Int} {n : Nat} (h : n ≤ 13) : (sqM f n n).length + totS (sqM f n n) (sqM f n n).length ≤ 1048576 := by
  rw [sqM_len, totS_sq (Nat.le_refl _)]
  have := Nat.mul_le_mul h h
  omega
set_option maxRecDepth 100000 in
set_option maxHeartbeats 1000000 in
theorem rowsOf_any (a : Option Addr) (xss : List (List Int)) (cap : Nat) (w : World) (hx : RdC w a xss) (hs : xss.length + totS xss xss.length ≤ 1048576) :
    Calls Try.prog 49 #[.agg #[.slice a xss.length cap]] w fun e w' => ∃ s va vn vc, e = .returned (.tuple #[.agg #[.int .i64 s, .slice va vn vc], .bool (mxB xss)]) ∧ (mxB xss = true → s = matS xss xss.length ∧ ∃ vl, SumP w' w.heap.size (.slice va vn vc) vl xss) ∧ Below w.heap.size w w' := by
  have hlen := hx.rd.len
  have HX := Lib.hid hx
  have HS := Lib.hid hs
  clear hx hs
  go_enter Try.func49, Try.ntmps49
  obtain ⟨W0, hW0⟩ : ∃ x : World, x = (w.alloc (.cells #[.slice a xss.length cap] 29)).alloc (.cells #[.int .i64 0, .slice none 0 0] 64) := ⟨_, rfl⟩
  have HW0 := Lib.hid hW0
  have b0 : Below w.heap.size w W0 := by rw [hW0]; exact (by repeat (first | exact Below.refl _ _ | assumption | refine Below.alloc ?_ (by first | exact Nat.le_refl _ | (simp only [World.size_alloc, World.size_setCell, World.size_drew]; omega) | omega) _ | refine Below.setCell ?_ (by first | exact Nat.le_refl _ | (simp only [World.size_alloc, World.size_setCell, World.size_drew]; omega) | omega) _ | refine Below.drew ?_))
  have c0 : W0.cell? ⟨w.heap.size, 0, none⟩ = some (.slice a xss.length cap) := by rw [hW0]; simp
  have hR0 : Var2 W0 (w.heap.size + 1) (.int .i64 0) (.slice none 0 0) := by
    have h := Var2.new (w.alloc (.cells #[.slice a xss.length cap] 29)) (.int .i64 0) (.slice none 0 0) 64
    rw [World.size_alloc] at h
    rw [hW0]; exact h
  have hz0 : w.heap.size + 2 = W0.heap.size := by rw [hW0]; simp
  have HCALL := Lib.hid (iAddUp_any a xss cap W0 (HX.out.below b0).rd HS.out)
  rw [hW0] at HCALL
  clear hW0
  go_wp2_with fail
  refine HCALL.out.mono ?_
  rintro e w1 ⟨s, va, vn, vc, rfl, hok, hb1⟩
  rw [← HW0.out] at hok hb1
  have b1 : Below w.heap.size w w1 := b0.trans (hb1.mono (by omega))
  have c1 := (hb1.cell (p := ⟨w.heap.size, 0, none⟩) (show w.heap.size < W0.heap.size by omega)).trans c0
  have hR1 := hR0.below hb1
  have hs1 := hb1.size
  clear hb1 b0 c0 hR0 HCALL HW0
  obtain ⟨W2, hW2⟩ : ∃ x : World, x = w1.alloc (.cells #[.int .i64 s, .slice va vn vc] 64) := ⟨_, rfl⟩
  have HW2 := Lib.hid hW2
  have bb2 : Below w1.heap.size w1 W2 := by rw [hW2]; exact (by repeat (first | exact Below.refl _ _ | assumption | refine Below.alloc ?_ (by first | exact Nat.le_refl _ | (simp only [World.size_alloc, World.size_setCell, World.size_drew]; omega) | omega) _ | refine Below.setCell ?_ (by first | exact Nat.le_refl _ | (simp only [World.size_alloc, World.size_setCell, World.size_drew]; omega) | omega) _ | refine Below.drew ?_))
  have b2 : Below w.heap.size w W2 := b1.trans (bb2.mono b1.size)
  have hA2 : Box2 W2 w1.heap.size (.int .i64 s) (.slice va vn vc) := by rw [hW2]; exact Box2.new _ _ _ _
  have hR2 := hR1.below bb2
  have c2 := (bb2.cell (p := ⟨w.heap.size, 0, none⟩) (show w.heap.size < w1.heap.size by omega)).trans c1
  have hs2 : w1.heap.size ≤ W2.heap.size := bb2.size
  clear hR1 c1
  subst hW2
  have ⟨zA2, cA2, dA2⟩ := hA2
  have ⟨⟨zR2, cR2, dR2⟩, fR2, gR2⟩ := hR2
  cases had : adB xss
  · have HF := Lib.hid had
    have HM : Hid (mxB xss = false) := by simp [Hid, mxB, had]
    clear had hok
    go_wp2_with fail
    have hR7 := hR2.set (.int .i64 s) (.slice va vn vc)
    have b7 := (b2.setCell (p := ⟨w.heap.size + 1, 0, none⟩) (by simp) (.int .i64 s)).setCell (p := ⟨w.heap.size + 1, 1, none⟩) (by simp) (.slice va vn vc)
    refine bodyPost_ret (v := .tuple #[.agg #[.int .i64 s, .slice va vn vc], .bool false]) (by have ⟨⟨_, q1, q2⟩, _, _⟩ := hR7; simp [results, Try.results49, go_sem, q1, q2]) rfl ?_
    exact ⟨s, va, vn, vc, by rw [HM.out], (by intro h; rw [HM.out] at h; cases h), b7⟩
  · have HF := Lib.hid had
    have HOK := Lib.hid (hok had)
    have h12 := adB_small had
    clear had hok
    have HUC := Lib.hid (isUpper_any a xss cap _ (HX.out.below b2))
    cases hup : upB xss
    · have HU := Lib.hid hup
      have HM : Hid (mxB xss = false) := by simp [Hid, mxB, hup]
      clear hup
      go_wp2_with fail
      refine HUC.out.mono ?_
      rintro e w3 ⟨rfl, hb3⟩
      rw [HU.out]
      have hA3 := hA2.below hb3
      have hR3 := hR2.below hb3
      have b3 := b2.trans (hb3.mono b2.size)
      have ⟨zA3, cA3, dA3⟩ := hA3
      have ⟨⟨zR3, cR3, dR3⟩, fR3, gR3⟩ := hR3
      clear hb3
      go_wp2_with fail
      have hR7 := hR3.set (.int .i64 s) (.slice va vn vc)
      have b7 := (b3.setCell (p := ⟨w.heap.size + 1, 0, none⟩) (by simp) (.int .i64 s)).setCell (p := ⟨w.heap.size + 1, 1, none⟩) (by simp) (.slice va vn vc)
      refine bodyPost_ret (v := .tuple #[.agg #[.int .i64 s, .slice va vn vc], .bool false]) (by have ⟨⟨_, q1, q2⟩, _, _⟩ := hR7; simp [results, Try.results49, go_sem, q1, q2]) rfl ?_
      exact ⟨s, va, vn, vc, by rw [HM.out], (by intro h; rw [HM.out] at h; cases h), b7⟩
    · have HU := Lib.hid hup
      have HL : Hid (∀ k, k < xss.length → (rowL xss k).length = xss.length) := fun k hk => (upB_iff.1 hup k hk).1
      have HM : Hid (mxB xss = adB (colsL xss)) := by rw [Hid, mxB, HF.out, hup]; rfl
      clear hup
      go_wp2_with fail
      refine HUC.out.mono ?_
      rintro e w3 ⟨rfl, hb3⟩
      rw [HU.out]
      have hA3 := hA2.below hb3
      have hR3 := hR2.below hb3
      have b3 := b2.trans (hb3.mono b2.size)
      have hs3 : w1.heap.size ≤ w3.heap.size := by have := hb3.size; simp at this; omega
      have c3 := (hb3.cell (p := ⟨w.heap.size, 0, none⟩) (by simp; omega)).trans c2
      have ⟨zA3, cA3, dA3⟩ := hA3
      have ⟨⟨zR3, cR3, dR3⟩, fR3, gR3⟩ := hR3
      have bb3 : Below w1.heap.size w1 w3 := bb2.trans (hb3.mono (by simp))
      clear hb3
      go_wp2_with fail
      refine (columnsOf_any a xss cap _ (HX.out.below b3).rd h12 HL.out).mono ?_
      rintro e w4 ⟨g, vlc, rfl, hro, hb4⟩
      have hA4 := hA3.below hb4
      have hR4 := hR3.below hb4
      have b4 := b3.trans (hb4.mono b3.size)
      have hs4 : w3.heap.size ≤ w4.heap.size := hb4.size
      have ⟨zA4, cA4, dA4⟩ := hA4
      have ⟨⟨zR4, cR4, dR4⟩, fR4, gR4⟩ := hR4
      have hAU := iAddUp_any (some ⟨g, 0, none⟩) (colsL xss) xss.length w4 hro.o.rd (by rw [colsL_sq]; exact sq_small (by omega))
      rw [← HM.out, colsL_len] at hAU
      have HAU := Lib.hid hAU
      have bb4 : Below w1.heap.size w1 w4 := bb3.trans (hb4.mono hs3)
      clear hb4 hro hAU
      go_wp2_with fail
      refine HAU.out.mono ?_
      rintro e w5 ⟨s5, va5, vn5, vc5, rfl, _, hb5⟩
      have hA5 := hA4.below hb5
      have hR5 := hR4.below hb5
      have b5 := b4.trans (hb5.mono b4.size)
      have bb5 : Below w1.heap.size w1 w5 := bb4.trans (hb5.mono (by omega))
      have ⟨zA5, cA5, dA5⟩ := hA5
      have ⟨⟨zR5, cR5, dR5⟩, fR5, gR5⟩ := hR5
      have hs5 : w4.heap.size ≤ w5.heap.size := hb5.size
      clear hb5
      go_wp2_with fail
      have hR7 := hR5.set (.int .i64 s) (.slice va vn vc)
      have b7 := (b5.setCell (p := ⟨w.heap.size + 1, 0, none⟩) (by simp) (.int .i64 s)).setCell (p := ⟨w.heap.size + 1, 1, none⟩) (by simp) (.slice va vn vc)
      refine bodyPost_ret (v := .tuple #[.agg #[.int .i64 s, .slice va vn vc], .bool (mxB xss)]) (by have ⟨⟨_, q1, q2⟩, _, _⟩ := hR7; simp [results, Try.results49, go_sem, q1, q2]) rfl ?_
      refine ⟨s, va, vn, vc, rfl, fun _ => ⟨HOK.out.1, ?_⟩, b7⟩
      obtain ⟨vl, hp⟩ := HOK.out.2
      have hp5 := hp.below bb5 (Nat.le_refl _)
      have hset : ∀ (p : Addr) (u : Value) (w9 : World), p.block = w.heap.size + 1 → SumP w9 W0.heap.size (.slice va vn vc) vl xss → SumP (w9.setCell p u) W0.heap.size (.slice va vn vc) vl xss := fun p u w9 e h =>
        ⟨ownsRow_setCell_below h.own (by rw [e]; omega) u, h.vlen, fun k hk => (h.row k hk).setBelow (by rw [e]; omega) u, h.apart, h.pair⟩
      exact ⟨vl, (hset _ _ _ rfl (hset _ _ _ rfl hp5)).mono (by omega)⟩

def smV (xss : List (List Int)) : Int := if mxB xss then matS xss xss.length else 0

theorem l1All_any (a : Option Addr) (xs : List Int) (cap : Nat) (lo hi : Int) (w : World) (hx : Rd w a xs) :
    Calls Try.prog 58 #[.slice a xs.length cap, .int .i64 lo, .int .i64 hi] w fun e w' => e = .returned (.bool (allB xs lo hi)) ∧ w = w' := by
  have hlen := hx.len
  go_enter Try.func58, Try.ntmps58
  go_wp2_with fail
  go_loop [11] (fun i => ∃ k : Nat, k ≤ xs.length ∧ i = .int .i64 k ∧ allB (xs.take k) lo hi = true) (fun i => xs.length - (intOf i).toNat)
  case atStart => exact ⟨0, Nat.zero_le _, rfl, rfl⟩
  case round =>
    obtain ⟨k, hk, rfl, hall⟩ := hrel
    by_cases hlt : k < xs.length
    · obtain ⟨b, off, rfl, hbl, hc⟩ := hx.cell k hlt
      cases hin : inB (nth xs k) lo hi
      · have hf := Lib.hid (allB_false hlt hin)
        go_wp2_with (go_at_call 46; refine (l1In_any _ _ _ _).mono ?_; rintro e w' ⟨rfl, rfl⟩)
        go_ret
        exact ⟨ret_bool hf.out.symm, rfl⟩
      · go_wp2_with (go_at_call 46; refine (l1In_any _ _ _ _).mono ?_; rintro e w' ⟨rfl, rfl⟩)
        go_round
        case rel => exact ⟨k + 1, by omega, by go_num, by rw [allB_take _ _ _ _ hlt, hall, hin]; rfl⟩
        case measure => simp [intOf]; omega
    · go_wp2_with fail
      go_ret
      exact ⟨ret_bool (by rw [← hall, List.take_of_length_le (by omega)]), rfl⟩
theorem l1All_is {a : Option Addr} {xs : List Int} {cap : Nat} {lo hi : Int} {b : Bool} {w : World} (hx : Rd w a xs) (h : allB xs lo hi = b) (m : Nat) :
    Calls Try.prog 58 #[.slice a xs.length cap, .int .i64 lo, .int .i64 hi] (w.drewN m) fun e w' => e = .returned (.bool b) ∧ ∃ k, w' = w.drewN k :=
  Calls.quiet_of_same ((l1All_any a xs cap lo hi (w.drewN m) (hx.below (Joins.below_draws _ _ _))).mono (fun e w' hh => ⟨by rw [← h]; exact hh.1, hh.2.symm⟩))

def maxI (a b : Int) : Int := if b < a then a else b
theorem l1Most_any (a b : Int) (w : World) : Calls Try.prog 84 #[.int .i64 a, .int .i64 b] w fun e w' => e = .returned (.int .i64 (maxI a b)) ∧ w = w' := by
  by_cases h : b < a
  · have H : Hid (maxI a b = a) := by rw [Hid, maxI, if_pos h]
    go_enter Try.func84, Try.ntmps84
    go_wp2
    go_ret
    exact ⟨ret_int H.out.symm, rfl⟩
  · have H : Hid (maxI a b = b) := by rw [Hid, maxI, if_neg h]
    go_enter Try.func84, Try.ntmps84
    go_wp2
    go_ret
    exact ⟨ret_int H.out.symm, rfl⟩

theorem mostTo_succ (l : List Int) (k : Nat) : maxI (mostTo l k) (nth l k) = mostTo l (k+1) := rfl
theorem ivMost_any (a : Option Addr) (l : List Int) (cap : Nat) (w : World) (hx : Rd w a l) :
    Calls Try.prog 59 #[.slice a l.length cap] w fun e w' => e = .returned (.int .i64 (mostTo l l.length)) ∧ w = w' := by
  have hlen := hx.len
  go_enter Try.func59, Try.ntmps59
  go_wp2_with fail
  go_loop [3, 8] (fun m i => ∃ k : Nat, k ≤ l.length ∧ i = .int .i64 k ∧ m = .int .i64 (mostTo l k)) (fun _ i => l.length - (intOf i).toNat)
  case atStart => exact ⟨0, Nat.zero_le _, rfl, rfl⟩
  case round =>
    obtain ⟨k, hk, rfl, rfl⟩ := hrel
    by_cases hlt : k < l.length
    · obtain ⟨b, off, rfl, hbl, hc⟩ := hx.cell k hlt
      have HM := Lib.hid (mostTo_succ l k)
      go_wp2_with (go_at_call 84; refine (l1Most_any _ _ _).mono ?_; rintro e w' ⟨rfl, rfl⟩)
      go_round
      case rel => exact ⟨k + 1, by omega, by go_num, val_int HM.out⟩
      case measure => simp [intOf]; omega
    · obtain rfl : k = l.length := by omega
      go_wp2_with fail
      go_ret
      exact ⟨rfl, rfl⟩

set_option maxRecDepth 100000 in
theorem maGood_any (a : Option Addr) (xss : List (List Int)) (cap : Nat) (w : World) (hx : RdS w a xss) :
    Calls Try.prog 31 #[.agg #[.slice a xss.length cap]] w fun e w' => e = .returned (.bool (mxB xss)) ∧ Below w.heap.size w w' := by
  have hlen := hx.len
  have HX := Lib.hid hx
  by_cases h12 : 12 < xss.length
  · have H : Hid (mxB xss = false) := by
      rw [Hid, ← Bool.not_eq_true]
      intro h
      have := mxB_small h
      omega
    go_enter Try.func31, Try.ntmps31
    go_wp2_with fail
    go_ret
    exact ⟨ret_bool H.out.symm, (by repeat (first | exact Below.refl _ _ | assumption | refine Below.alloc ?_ (by first | exact Nat.le_refl _ | (simp only [World.size_alloc, World.size_setCell, World.size_drew]; omega) | omega) _ | refine Below.setCell ?_ (by first | exact Nat.le_refl _ | (simp only [World.size_alloc, World.size_setCell, World.size_drew]; omega) | omega) _ | refine Below.drew ?_))⟩
  · go_enter Try.func31, Try.ntmps31
    go_wp2_with fail
    go_loopw [17] (fun i wr => ∃ k : Nat, k ≤ xss.length ∧ i = .int .i64 k ∧ Hid (∀ j, j < k → rowG xss j) ∧ wr = (w.alloc (.cells #[.slice a xss.length cap] 29))) (fun i _ => xss.length - (intOf i).toNat)
    case atStart => exact ⟨0, Nat.zero_le _, rfl, fun j hj => by omega, rfl⟩
    case round =>
      obtain ⟨k, hk, rfl, HR, rfl⟩ := hrel
      by_cases hlt : k < xss.length
      · obtain ⟨b, off, a', cap', rfl, hbl, hc, hr⟩ := (HX.out.below (show Below w.heap.size w (w.alloc (.cells #[.slice a xss.length cap] 29)) from (by repeat (first | exact Below.refl _ _ | assumption | refine Below.alloc ?_ (by first | exact Nat.le_refl _ | (simp only [World.size_alloc, World.size_setCell, World.size_drew]; omega) | omega) _ | refine Below.setCell ?_ (by first | exact Nat.le_refl _ | (simp only [World.size_alloc, World.size_setCell, World.size_drew]; omega) | omega) _ | refine Below.drew ?_)))).row k hlt
        have k1 : (k : Int) < (xss.length : Int) := by omega
        by_cases hq : (rowL xss k).length = xss.length
        · have hqq : (((rowL xss k).length : Int) != (xss.length : Int)) = false := by simp [hq]
          have HQ := Lib.hid hq
          have hrl := hr.len
          cases hal : allB (rowL xss k) 0 12
          · have H : Hid (mxB xss = false) := by
              rw [Hid, ← Bool.not_eq_true]
              intro h
              rw [(rowG_of h hlt).2.1] at hal
              cases hal
            have HA := Lib.hid hal
            clear hq hal
            go_wp2_with fail
            refine (l1All_any _ _ _ _ _ _ hr).mono ?_
            rintro e w' ⟨rfl, rfl⟩
            rw [HA.out]
            go_wp2_with fail
            go_ret
            exact ⟨ret_bool H.out.symm, (by repeat (first | exact Below.refl _ _ | assumption | refine Below.alloc ?_ (by first | exact Nat.le_refl _ | (simp only [World.size_alloc, World.size_setCell, World.size_drew]; omega) | omega) _ | refine Below.setCell ?_ (by first | exact Nat.le_refl _ | (simp only [World.size_alloc, World.size_setCell, World.size_drew]; omega) | omega) _ | refine Below.drew ?_))⟩
          · have HA := Lib.hid hal
            by_cases hm : mostTo (rowL xss k) (rowL xss k).length = 0
            · have H : Hid (mxB xss = false) := by
                rw [Hid, ← Bool.not_eq_true]
                intro h
                exact (rowG_of h hlt).2.2.1 hm
              have HM := Lib.hid hm
              clear hq hal hm
              go_wp2_with fail
              refine (l1All_any _ _ _ _ _ _ hr).mono ?_
              rintro e w' ⟨rfl, rfl⟩
              rw [HA.out]
              go_wp2_with fail
              refine (ivMost_any _ _ _ _ hr).mono ?_
              rintro e w' ⟨rfl, rfl⟩
              rw [HM.out]
              go_wp2_with fail
              go_ret
              exact ⟨ret_bool H.out.symm, (by repeat (first | exact Below.refl _ _ | assumption | refine Below.alloc ?_ (by first | exact Nat.le_refl _ | (simp only [World.size_alloc, World.size_setCell, World.size_drew]; omega) | omega) _ | refine Below.setCell ?_ (by first | exact Nat.le_refl _ | (simp only [World.size_alloc, World.size_setCell, World.size_drew]; omega) | omega) _ | refine Below.drew ?_))⟩
            · have hmm : (mostTo (rowL xss k) (rowL xss k).length == 0) = false := by simp [hm]
              have HM := Lib.hid hm
              have HRD := Lib.hid hr
              clear hq hal hm
              obtain ⟨M, hM⟩ : ∃ M, M = mostTo (rowL xss k) (rowL xss k).length := ⟨_, rfl⟩
              have HMM := Lib.hid hM
              rw [← hM] at hmm
              clear hM
              go_wp2_with fail
              refine (l1All_any _ _ _ _ _ _ hr).mono ?_
              rintro e w' ⟨rfl, rfl⟩
              rw [HA.out]
              go_wp2_with fail
              refine (ivMost_any _ _ _ _ hr).mono ?_
              rintro e w' ⟨rfl, rfl⟩
              rw [← HMM.out]
              clear hr
              go_wp2_with fail
              go_loop [38] (fun i => ∃ q : Nat, q ≤ (rowL xss k).length ∧ i = .int .i64 q ∧ Hid (∀ j, j < q → j < k → atM xss k j = 0)) (fun i => (rowL xss k).length - (intOf i).toNat)
              case atStart => exact ⟨0, Nat.zero_le _, rfl, fun j hj => by omega⟩
              case round =>
                obtain ⟨q, hq2, rfl, HU⟩ := hrel
                by_cases hlt2 : q < (rowL xss k).length
                · obtain ⟨b2, off2, rfl, hbl2, hc2⟩ := HRD.out.cell q hlt2
                  have q1 : (q : Int) < ((rowL xss k).length : Int) := by omega
                  by_cases hqk : q < k
                  · have hqi : (q : Int) < (k : Int) := by omega
                    by_cases hp : 0 < nth (rowL xss k) q
                    · have H : Hid (mxB xss = false) := by
                        rw [Hid, ← Bool.not_eq_true]
                        intro h
                        have := (rowG_of h hlt).2.2.2 q hqk
                        rw [atM] at this
                        omega
                      go_wp2_with fail
                      go_ret
                      exact ⟨ret_bool H.out.symm, (by repeat (first | exact Below.refl _ _ | assumption | refine Below.alloc ?_ (by first | exact Nat.le_refl _ | (simp only [World.size_alloc, World.size_setCell, World.size_drew]; omega) | omega) _ | refine Below.setCell ?_ (by first | exact Nat.le_refl _ | (simp only [World.size_alloc, World.size_setCell, World.size_drew]; omega) | omega) _ | refine Below.drew ?_))⟩
                    · have HZ : Hid (atM xss k q = 0) := by
                        have := (allB_nth HA.out hlt2).1
                        rw [Hid, atM]; omega
                      go_wp2_with fail
                      go_round
                      case rel =>
                        refine ⟨q + 1, by omega, by go_num, fun j hj hjk => ?_⟩
                        by_cases e : j = q
                        · rw [e]; exact HZ.out
                        · exact HU.out j (by omega) hjk
                      case measure => simp [intOf]; omega
                  · have hqi : ¬ (q : Int) < (k : Int) := by omega
                    go_wp2_with fail
                    go_round
                    case rel =>
                      refine ⟨q + 1, by omega, by go_num, fun j hj hjk => HU.out j (by omega) hjk⟩
                    case measure => simp [intOf]; omega
                · have HG : Hid (rowG xss k) := ⟨HQ.out, HA.out, HM.out, fun j hj => HU.out j (by rw [HQ.out] at hlt2; rw [HQ.out] at hq2; have := HQ.out; omega) hj⟩
                  go_wp2_with fail
                  go_roundw
                  case rel =>
                    refine ⟨k + 1, by omega, by go_num, fun j hj => ?_, ?_⟩
                    · by_cases e : j = k
                      · rw [e]; exact HG.out
                      · exact HR.out j (by omega)
                    · first | rfl | trivial
                  case measure => simp [intOf]; omega
        · have hqq : (((rowL xss k).length : Int) != (xss.length : Int)) = true := by simp; omega
          have H : Hid (mxB xss = false) := by
            rw [Hid, ← Bool.not_eq_true]
            intro h
            exact hq (mxB_len h hlt)
          clear hq
          go_wp2_with fail
          go_ret
          exact ⟨ret_bool H.out.symm, (by repeat (first | exact Below.refl _ _ | assumption | refine Below.alloc ?_ (by first | exact Nat.le_refl _ | (simp only [World.size_alloc, World.size_setCell, World.size_drew]; omega) | omega) _ | refine Below.setCell ?_ (by first | exact Nat.le_refl _ | (simp only [World.size_alloc, World.size_setCell, World.size_drew]; omega) | omega) _ | refine Below.drew ?_))⟩
      · obtain rfl : k = xss.length := by omega
        have HL : Hid (∀ k, k < xss.length → (rowL xss k).length = xss.length) := fun k hk => (HR.out k hk).1
        have HV : Hid (∀ k, k < xss.length → ∀ j, j < (rowL xss k).length → 0 ≤ nth (rowL xss k) j ∧ nth (rowL xss k) j ≤ 12) := fun k hk j hj => allB_nth (HR.out k hk).2.1 hj
        clear hx
        go_wp2_with fail
        go_loopw [55] (fun i wr => ∃ k : Nat, k ≤ xss.length ∧ i = .int .i64 k ∧ Hid (∀ j, j < k → colG xss j) ∧ Below w.heap.size w wr ∧ wr.cell? ⟨w.heap.size, 0, none⟩ = some (.slice a xss.length cap) ∧ w.heap.size < wr.heap.size) (fun i _ => xss.length - (intOf i).toNat)
        case atStart => exact ⟨0, Nat.zero_le _, rfl, fun j hj => by omega, (by repeat (first | exact Below.refl _ _ | assumption | refine Below.alloc ?_ (by first | exact Nat.le_refl _ | (simp only [World.size_alloc, World.size_setCell, World.size_drew]; omega) | omega) _ | refine Below.setCell ?_ (by first | exact Nat.le_refl _ | (simp only [World.size_alloc, World.size_setCell, World.size_drew]; omega) | omega) _ | refine Below.drew ?_)), by simp, by simp⟩
        case round =>
          obtain ⟨q, hq, rfl, HC, hb, hcell, hsz⟩ := hrel
          have hbs := hb.size
          by_cases hlt : q < xss.length
          · have HCL := Lib.hid (maColumn_any a xss cap q wr (HX.out.below hb) (by omega) (fun k hk => by rw [HL.out k hk]; exact hlt))
            by_cases hm : mostTo (colL xss q) (colL xss q).length = 0
            · have H : Hid (mxB xss = false) := by
                rw [Hid, ← Bool.not_eq_true]
                intro h
                have := colG_of h hlt
                rw [colL_len] at hm
                exact this hm
              have HM := Lib.hid hm
              clear hm
              go_wp2_with fail
              refine HCL.out.mono ?_
              rintro e w2 ⟨a2, c2, rfl, hown, hb2⟩
              have HCC := Lib.hid (ivMost_any a2 (colL xss q) c2 w2 hown.rd)
              rw [HM.out, colL_len] at HCC
              go_wp2_with fail
              refine HCC.out.mono ?_
              rintro e w' ⟨rfl, rfl⟩
              go_wp2_with fail
              go_ret
              exact ⟨ret_bool H.out.symm, hb.trans (hb2.mono hbs)⟩
            · have HM : Hid (colG xss q) := by rw [Hid, colG]; rw [colL_len] at hm; exact hm
              obtain ⟨M, hM⟩ : ∃ M, M = mostTo (colL xss q) (colL xss q).length := ⟨_, rfl⟩
              have HMM := Lib.hid hM
              rw [← hM] at hm
              have hmm : (M == 0) = false := by simp [hm]
              clear hM hm
              go_wp2_with fail
              refine HCL.out.mono ?_
              rintro e w2 ⟨a2, c2, rfl, hown, hb2⟩
              have HCC := Lib.hid (ivMost_any a2 (colL xss q) c2 w2 hown.rd)
              rw [← HMM.out, colL_len] at HCC
              have hcell2 := (hb2.cell (p := ⟨w.heap.size, 0, none⟩) hsz).trans hcell
              have hs2 := hb2.size
              go_wp2_with fail
              refine HCC.out.mono ?_
              rintro e w' ⟨rfl, rfl⟩
              go_wp2_with fail
              go_roundw
              case rel =>
                refine ⟨q + 1, by omega, by go_num, fun j hj => ?_, hb.trans (hb2.mono hbs), hcell2, by omega⟩
                by_cases e : j = q
                · rw [e]; exact HM.out
                · exact HC.out j (by omega)
              case measure => simp [intOf]; omega
          · obtain rfl : q = xss.length := by omega
            have HS := Lib.hid (maSum_any a xss cap wr (HX.out.below hb) (by omega) HL.out HV.out)
            have H : Hid (decide (matS xss xss.length ≤ 12) = mxB xss) := (mx_of HR.out HC.out).symm
            have hge : -9223372036854775808 ≤ matS xss xss.length ∧ matS xss xss.length ≤ 9223372036854775807 ∨ True := .inr trivial
            go_wp2_with fail
            refine HS.out.mono ?_
            rintro e w2 ⟨rfl, hb2⟩
            go_wp2_with fail
            go_ret
            exact ⟨ret_bool H.out, hb.trans (hb2.mono hbs)⟩

theorem ret_ib' {a a' : Int} {b b' : Bool} (h1 : a = a') (h2 : b = b') : Ending.returned (.tuple #[.int .i64 a, .bool b]) = .returned (.tuple #[.int .i64 a', .bool b']) := by rw [h1, h2]

theorem iSumMx_any (a : Option Addr) (xss : List (List Int)) (cap : Nat) (w : World) (hx : RdC w a xss) (hs : xss.length + totS xss xss.length ≤ 1048576) :
    Calls Try.prog 34 #[.agg #[.slice a xss.length cap]] w fun e w' => e = .returned (.tuple #[.int .i64 (smV xss), .bool (mxB xss)]) ∧ Below w.heap.size w w' := by
  have hlen := hx.rd.len
  have HCL := Lib.hid (fun W (h : RdC W a xss) => rowsOf_any a xss cap W h hs)
  cases hm : mxB xss
  · have HM := Lib.hid hm
    have H1 : Hid (smV xss = 0) := by simp [Hid, smV, hm]
    clear hm
    go_enter Try.func34, Try.ntmps34
    go_wp2_with fail
    refine (HCL.out _ (hx.below (by repeat (first | exact Below.refl _ _ | assumption | refine Below.alloc ?_ (by first | exact Nat.le_refl _ | (simp only [World.size_alloc, World.size_setCell, World.size_drew]; omega) | omega) _ | refine Below.setCell ?_ (by first | exact Nat.le_refl _ | (simp only [World.size_alloc, World.size_setCell, World.size_drew]; omega) | omega) _ | refine Below.drew ?_)))).mono ?_
    rintro e w1 ⟨s, va, vn, vc, rfl, _, hb⟩
    rw [HM.out]
    have b1 : Below w.heap.size w w1 := Below.trans (by repeat (first | exact Below.refl _ _ | assumption | refine Below.alloc ?_ (by first | exact Nat.le_refl _ | (simp only [World.size_alloc, World.size_setCell, World.size_drew]; omega) | omega) _ | refine Below.setCell ?_ (by first | exact Nat.le_refl _ | (simp only [World.size_alloc, World.size_setCell, World.size_drew]; omega) | omega) _ | refine Below.drew ?_)) (hb.mono (by first | (simp only [World.size_alloc, World.size_setCell, World.size_drew]; omega) | omega))
    clear hb
    go_wp2_with fail
    go_ret2
    exact ⟨ret_ib' H1.out.symm rfl, b1.alloc b1.size _⟩
  · have HM := Lib.hid hm
    have H1 : Hid (smV xss = matS xss xss.length) := by simp [Hid, smV, hm]
    clear hm
    go_enter Try.func34, Try.ntmps34
    go_wp2_with fail
    refine (HCL.out _ (hx.below (by repeat (first | exact Below.refl _ _ | assumption | refine Below.alloc ?_ (by first | exact Nat.le_refl _ | (simp only [World.size_alloc, World.size_setCell, World.size_drew]; omega) | omega) _ | refine Below.setCell ?_ (by first | exact Nat.le_refl _ | (simp only [World.size_alloc, World.size_setCell, World.size_drew]; omega) | omega) _ | refine Below.drew ?_)))).mono ?_
    rintro e w1 ⟨s, va, vn, vc, rfl, hok, hb⟩
    have hok2 := Lib.hid (hok HM.out).1
    rw [HM.out]
    have b1 : Below w.heap.size w w1 := Below.trans (by repeat (first | exact Below.refl _ _ | assumption | refine Below.alloc ?_ (by first | exact Nat.le_refl _ | (simp only [World.size_alloc, World.size_setCell, World.size_drew]; omega) | omega) _ | refine Below.setCell ?_ (by first | exact Nat.le_refl _ | (simp only [World.size_alloc, World.size_setCell, World.size_drew]; omega) | omega) _ | refine Below.drew ?_)) (hb.mono (by first | (simp only [World.size_alloc, World.size_setCell, World.size_drew]; omega) | omega))
    clear hb hok
    go_wp2_with fail
    go_ret2
    exact ⟨ret_ib' (by rw [H1.out, hok2.out]) rfl, b1.alloc b1.size _⟩

set_option maxRecDepth 100000 in
set_option maxHeartbeats 1000000 in
theorem iMtMx_any (a : Option Addr) (xss : List (List Int)) (cap : Nat) (w : World) (hx : RdC w a xss) (hs : xss.length + totS xss xss.length ≤ 1048576) :
    Calls Try.prog 12 #[.agg #[.slice a xss.length cap]] w (GotI w (tmL xss) (mxB xss)) := by
  obtain ⟨i0, hi, hz0, hz1, hz2⟩ := info_parts infoInt
  obtain ⟨j0, hj0, hy0, hy1, hy2⟩ := info_parts infoRow0
  obtain ⟨W0, hW0⟩ : ∃ x : World, x = w.alloc (.cells #[.slice a xss.length cap] 29) := ⟨_, rfl⟩
  have bw0 : Below w.heap.size w W0 := by rw [hW0]; exact (Below.refl _ _).alloc (Nat.le_refl _) _
  have B0 : Box1 W0 w.heap.size (.slice a xss.length cap) := by rw [hW0]; exact Box1.new w _ _
  have hx0 := hx.below bw0
  obtain ⟨g0, hg0⟩ : ∃ g, g = w.heap.size := ⟨_, rfl⟩
  have HSM := Lib.hid (fun W (h : RdC W a xss) => iSumMx_any a xss cap W h hs)
  clear hx
  cases hb0 : mxB xss
  · have HL : Hid (tmL xss = []) := by simp [Hid, tmL, hb0]
    rw [hb0] at HSM
    clear hb0
    go_enter Try.func12, Try.ntmps12
    go_wp2_with fail
    rw [← hW0]
    rw [← hg0] at B0 ⊢
    have ⟨zB0, cB0⟩ := B0
    clear hg0 hW0
    go_wp2_with fail
    refine (HSM.out _ hx0).mono ?_
    rintro e w1 ⟨rfl, hb⟩
    clear cB0
    go_wp2_with fail
    refine bodyPost_ret (v := .tuple #[.slice none 0 0, .bool false]) (by simp [results, Try.results12, go_sem]) rfl ?_
    exact gotI_no HL.out rfl (bw0.trans (hb.mono bw0.size))
  · have h12 := mxB_small hb0
    have ⟨hN2, hN24⟩ := en_two hb0
    have HSV : Hid (smV xss = matS xss xss.length) := by simp [Hid, smV, hb0]
    have HIN := Lib.hid (tm_Inv (d := xss.length) (en_up xss))
    have HTL : Hid (tmL xss = P2 (tmF (enN xss) xss.length) (oP (enN xss) xss.length xss.length)) := by rw [Hid, tmL, if_pos hb0, P2_all HIN.out]
    have HM := Lib.hid hb0
    have HU := Lib.hid (en_up xss)
    rw [hb0, HSV.out] at HSM
    obtain ⟨N, hN⟩ : ∃ N, N = oP (enN xss) xss.length xss.length := ⟨_, rfl⟩
    obtain ⟨S, hS⟩ : ∃ S, S = matS xss xss.length := ⟨_, rfl⟩
    rw [← hN, ← hS] at hN2
    rw [← hN] at hN24
    rw [← hN] at HTL HIN
    rw [← hS] at HSM
    have hS0 : 0 ≤ S ∧ S ≤ 12 := by omega
    have HN := Lib.hid hN
    clear hS hb0 hN
    go_enter Try.func12, Try.ntmps12
    go_wp2_with fail
    rw [← hW0]
    rw [← hg0] at B0 ⊢
    have ⟨zB0, cB0⟩ := B0
    clear hg0 hW0
    go_wp2_with fail
    refine (HSM.out _ hx0).mono ?_
    rintro e w1 ⟨rfl, hb1⟩
    have ⟨zB1, cB1⟩ := B0.below hb1
    clear cB0
    go_wp2_with (first
      | (at_make; refine wpList_make_own _ rfl _ (.tmp 22) 26 rfl W0.heap.size 3 i0 (.int .i64 0) 1 Try.underlying26 hi hz0 hz1 .i64 .i64 _ N rfl rfl (by omega) (by rw [hz2]; omega) (by unfold maxLen; omega) hb1.size ?_; intro w3 hown3 hgrow3; have b3 : Below W0.heap.size W0 w3 := hb1.grown hgrow3 hb1.size (fun k h => by cases h); have hp3 : OwnI w3 W0.heap.size (.slice (some ⟨w1.heap.size, 0, none⟩) 0 N) [] := hown3; have ⟨zB3, cB3⟩ := B0.below b3; clear cB1)
      | (at_make; have _t := hp3; refine wpList_make_full _ rfl (.tmp 26) (.tmp 26) 22 rfl w3.heap.size 26 j0 (.slice none 0 0) 1 Try.underlying22 hj0 hy0 hy1 .i64 .i64 _ _ xss.length rfl rfl rfl rfl (by rw [hy2]; omega) (by unfold maxLen; omega) (Nat.le_refl _) ?_; intro w4 hown4 hgrow4; have b4 : Below W0.heap.size W0 w4 := b3.grown hgrow4 b3.size (fun k h => by cases h); have ⟨zB4, cB4⟩ := B0.below b4; clear cB3))
    have hp4 := hp3.kept hgrow4 (Classical.em _)
    have hr4 : RowsP w4 w3.heap.size (.slice (some ⟨w3.heap.size, 0, none⟩) xss.length xss.length) (List.replicate xss.length (.slice none 0 0)) (opR (enN xss) xss.length 0 0 0) := by
      rw [← opR_zero]
      exact RowsP.made (by simpa [Value.cells, toList_madeCells_one] using hown4)
    have hlt3 := (hp3.lt w1.heap.size rfl)
    have T0 : StM W0 w4 W0.heap.size w3.heap.size w1.heap.size w3.heap.size N xss.length 0 (P2 (tmF (enN xss) xss.length) 0) _ _ := ⟨hp4, hr4, rfl, opR_len _ _ _ _ _, hlt3.1, hlt3.2, hgrow4.size, b4⟩
    obtain ⟨gp, hgp⟩ : ∃ g, g = w1.heap.size := ⟨_, rfl⟩
    obtain ⟨go, hgo⟩ : ∃ g, g = w3.heap.size := ⟨_, rfl⟩
    rw [← hgp, ← hgo] at T0
    rw [← hgp, ← hgo]
    clear hown3 hgrow3 hown4 hgrow4 hp3 hp4 hr4 hlt3 hgp hgo b3 b4 hb1 zB1 zB3 _t
    go_wp2_with fail
    go_loopw [6, 31] (fun v6 i wr => ∃ (k : Nat) (vl : List Value), k ≤ xss.length ∧ i = .int .i64 k ∧ v6 = .slice (some ⟨gp, 0, none⟩) (oP (enN xss) xss.length k) N ∧ StM W0 wr W0.heap.size go gp go N xss.length (oP (enN xss) xss.length k) (P2 (tmF (enN xss) xss.length) (oP (enN xss) xss.length k)) vl (opR (enN xss) xss.length k 0 0)) (fun _ i _ => xss.length - (intOf i).toNat)
    case atStart => exact ⟨0, _, Nat.zero_le _, rfl, rfl, T0⟩
    case round =>
      clear T0 cB4 zB4
      obtain ⟨k, vl, hk, rfl, rfl, T⟩ := hrel
      have hk24 : oP (enN xss) xss.length k ≤ N := by rw [HN.out]; exact sN_up _ hk
      by_cases hlt : k < xss.length
      · have hx1 := hx0
        obtain ⟨b, off, a', cap', rfl, hbl0, hc0, hr0, hcp⟩ := hx1.row hlt
        have hbl : b < wr.heap.size := by have := T.b.size; omega
        have hc := (T.b.cell (p := ⟨b, off + k, none⟩) hbl0).trans hc0
        have hrow := mxB_len HM.out hlt
        have HR0 := Lib.hid hr0
        have HEN := Lib.hid (fun j (hj : j < xss.length) => en_at HM.out hlt hj)
        have HNX : Hid (oP (enN xss) xss.length k + rS (enN xss) k xss.length = cP (enN xss) xss.length k) := rfl
        rw [hrow] at hc
        clear hc0 hr0 hx1
        go_wp2_with fail
        go_loopw [6, 38] (fun v6 i wi => ∃ (j : Nat) (vl : List Value), j ≤ xss.length ∧ i = .int .i64 j ∧ v6 = .slice (some ⟨gp, 0, none⟩) (oP (enN xss) xss.length k + rS (enN xss) k j) N ∧ StM W0 wi W0.heap.size go gp go N xss.length (oP (enN xss) xss.length k + rS (enN xss) k j) (P2 (tmF (enN xss) xss.length) (oP (enN xss) xss.length k + rS (enN xss) k j)) vl (opR (enN xss) xss.length k j 0)) (fun _ i _ => xss.length - (intOf i).toNat)
        case atStart => exact ⟨0, vl, Nat.zero_le _, rfl, rfl, T⟩
        case round =>
          clear T hc hbl vl
          obtain ⟨j, vl, hj, rfl, rfl, T⟩ := hrel
          by_cases hjl : j < xss.length
          · obtain ⟨b', off', rfl, hbl', hc'⟩ := (HR0.out.below T.b).cell j (by rw [hrow]; exact hjl)
            have hce := HEN.out j hjl
            rw [show nth (rowL xss k) j = atM xss k j from rfl, hce] at hc'
            have hj1 : (j : Int) < (xss.length : Int) := by omega
            have HRS : Hid (rS (enN xss) k (j+1) = rS (enN xss) k j + enN xss k j) := rfl
            have HNJ := Lib.hid (opR_nextj (enN xss) xss.length k j)
            have HOP : Hid (∀ t, t < enN xss k j → tmF (enN xss) xss.length (oP (enN xss) xss.length k + rS (enN xss) k j + t) = cP (enN xss) xss.length j + cS (enN xss) j k + t) := fun t ht => tm_op hlt hjl ht
            have HCL : Hid (∀ t, t < enN xss k j → tmF (enN xss) xss.length (cP (enN xss) xss.length j + cS (enN xss) j k + t) = oP (enN xss) xss.length k + rS (enN xss) k j + t) := fun t ht => tm_cl hlt hjl ht
            have HLT : Hid (∀ t, t < enN xss k j → _) := fun t ht => tm_lt (d := xss.length) HU.out hlt hjl ht
            have HJN : Hid (oP (enN xss) xss.length (j+1) ≤ N) := by rw [Hid, HN.out]; exact sN_up _ (by omega)
            obtain ⟨E, hE⟩ : ∃ E, E = enN xss k j := ⟨_, rfl⟩
            rw [← hE] at hc' HRS HNJ HOP HLT HCL
            have HEE : Hid (E ≤ 12) := by
              have := mxB_num HM.out hlt hjl
              have := HEN.out j hjl
              rw [Hid, hE]; omega
            have hE12 := HEE.out
            clear hce hE
            go_wp2_with fail
            go_loopw [6, 44] (fun v6 i wi => ∃ (t : Nat) (vl : List Value), t ≤ E ∧ i = .int .i64 t ∧ v6 = .slice (some ⟨gp, 0, none⟩) (oP (enN xss) xss.length k + rS (enN xss) k j + t) N ∧ StM W0 wi W0.heap.size go gp go N xss.length (oP (enN xss) xss.length k + rS (enN xss) k j + t) (P2 (tmF (enN xss) xss.length) (oP (enN xss) xss.length k + rS (enN xss) k j + t)) vl (opR (enN xss) xss.length k j t)) (fun _ i _ => E - (intOf i).toNat)
            case atStart => exact ⟨0, vl, Nat.zero_le _, rfl, rfl, T⟩
            case round =>
              clear T hc' vl
              obtain ⟨t, vl, ht, rfl, rfl, T⟩ := hrel
              by_cases htl : t < E
              · have he := HOP.out t htl
                have he2 := HCL.out t htl
                have ⟨l1, l2, l3⟩ := HLT.out t htl
                have l4 := HJN.out
                obtain ⟨X, hX⟩ : ∃ X, X = oP (enN xss) xss.length k + rS (enN xss) k j + t := ⟨_, rfl⟩
                rw [← hX] at T he2 he l1 ⊢
                have HOS := Lib.hid (opR_set (i := k) (t := t) hjl he2)
                have HP2 : Hid (P2 (tmF (enN xss) xss.length) X ++ [0] = P2 (tmF (enN xss) xss.length) (X+1)) := P2_open HIN.out (by omega) (by rw [he]; omega)
                have HX1 : Hid (oP (enN xss) xss.length k + rS (enN xss) k j + (t+1) = X + 1) := by rw [Hid]; omega
                have hXN : X < N := by omega
                have hrl : ((rowL (opR (enN xss) xss.length k j t) j).length : Nat) ≤ 24 := by
                  have h6 : cS (enN xss) j (k+1) = cS (enN xss) j k + enN xss k j := rfl
                  have h7 : cS (enN xss) j (k+1) ≤ cS (enN xss) j xss.length := sN_up _ (by omega)
                  have h8 : oP (enN xss) xss.length (j+1) = oP (enN xss) xss.length j + (rS (enN xss) j xss.length + cS (enN xss) j xss.length) := rfl
                  have h9 : cP (enN xss) xss.length j = oP (enN xss) xss.length j + rS (enN xss) j xss.length := rfl
                  rw [opR_row _ _ _ _ hjl, fmap_len, ctF, if_neg (by omega), if_pos rfl]
                  omega
                clear hX he he2 l1 l2 l3 l4
                have hlr := T.lr
                obtain ⟨gq, eq, hq0, hq1, hq2, hq3⟩ := T.r.outer (k := j) (by rw [hlr]; exact hjl)
                simp only [Option.some.injEq, Addr.mk.injEq, and_true] at eq
                obtain rfl := eq
                have hro := T.r.o.row j (by rw [hlr]; exact hjl)
                obtain ⟨ra, rc, er⟩ := hro.form
                rw [er] at hq2
                have ER := Lib.hid er
                have HT := Lib.hid T
                have hbsz := T.bs
                have hpl := T.l
                rw [er] at hro
                clear er T
                go_wp2_with (first
                  | (at_builtin; have _g := hro; refine push_at rfl _ _ rfl (z := (X : Int)) rfl hro rfl (by omega) hbsz ?_; intro v' w3 o3 hg3 hat3; obtain ⟨va, vc, ev⟩ := o3.form; rw [List.length_append, List.length_singleton] at ev; subst ev; have ⟨⟨z, hz⟩, hf, T3⟩ := HT.out.grow hjl (by rw [ER.out]; exact hg3) o3 (by rw [ER.out]; exact hat3); rw [HOS.out] at T3; have HT3 := Lib.hid T3; clear hq2 hq3 hro T3 o3 hg3 hat3)
                  | (at_builtin; have _g := HT3; refine wpList_append_fits _ rfl _ _ 26 rfl W0.heap.size 3 i0 1 Try.underlying26 hi hz1 gp X N ((P2 (tmF (enN xss) xss.length) X).map (Value.int .i64)) rfl (by have h := HT3.out.o.alloc (.cells #[.int .i64 0] 3); unfold OwnI at h; rw [HT3.out.l] at h; exact h) ⟨w3.heap.size, 0, none⟩ 1 1 [.int .i64 0] rfl rfl (by have h := cell_one_new (w3.setCell ⟨go, j, none⟩ (.slice va ((rowL (opR (enN xss) xss.length k j t) j).length + 1) vc)) (.int .i64 0) 3; rw [World.size_setCell] at h; exact h) (by intro u hu; simp at hu; subst hu; rfl) (by omega) ?_; intro w5 ho5 hg5; have T5 := HT3.out.push (ps' := P2 (tmF (enN xss) xss.length) (X+1)) (grown_alloc_set hg5) (by rw [← HP2.out]; unfold OwnI; rw [List.length_append, HT3.out.l, List.map_append]; exact ho5) (P2_len _ _); have HT5 := Lib.hid T5; clear T5 ho5 hg5))
                go_roundw
                case rel => exact ⟨t + 1, _, by omega, by go_num, by rw [HX1.out], by rw [HX1.out]; exact HT5.out⟩
                case measure => simp [intOf]; omega
              · obtain rfl : t = E := by omega
                go_wp2_with fail
                go_roundw
                case rel => exact ⟨j + 1, vl, by omega, by go_num, by rw [HRS.out, ← Nat.add_assoc], by rw [HRS.out, ← HNJ.out, ← Nat.add_assoc]; exact T⟩
                case measure => simp [intOf]; omega
          · obtain rfl : j = xss.length := by omega
            rw [HNX.out] at T ⊢
            have HCK : Hid (cP (enN xss) xss.length k + cS (enN xss) k xss.length = oP (enN xss) xss.length (k+1)) := by
              have h8 : oP (enN xss) xss.length (k+1) = oP (enN xss) xss.length k + (rS (enN xss) k xss.length + cS (enN xss) k xss.length) := rfl
              have h9 := HNX.out
              rw [Hid]; omega
            have HKN : Hid (oP (enN xss) xss.length (k+1) ≤ N) := by rw [Hid, HN.out]; exact sN_up _ (by omega)
            have hkn := HKN.out
            rw [← HCK.out] at hkn
            have HBK : Hid (∀ s, s < cS (enN xss) k xss.length → tmF (enN xss) xss.length (cP (enN xss) xss.length k + s) < cP (enN xss) xss.length k) := fun s hs => tm_back HU.out hlt (by omega) (by rw [← HCK.out]; omega)
            have HNI := Lib.hid (opR_nexti (enN xss) xss.length k)
            have HFR := Lib.hid (opR_full (d := xss.length) HU.out hlt)
            have hlr := T.lr
            obtain ⟨gq, eq, hq0, hq1, hq2, hq3⟩ := T.r.outer (k := k) (by rw [hlr]; exact hlt)
            simp only [Option.some.injEq, Addr.mk.injEq, and_true] at eq
            obtain rfl := eq
            have hro := T.r.o.row k (by rw [hlr]; exact hlt)
            rw [HFR.out] at hro
            obtain ⟨ra, rc, er⟩ := hro.form
            rw [fmap_len] at er
            rw [er] at hq2
            have ER := Lib.hid er
            obtain ⟨Y, hY⟩ : ∃ Y, Y = cP (enN xss) xss.length k := ⟨_, rfl⟩
            obtain ⟨M, hM⟩ : ∃ M, M = cS (enN xss) k xss.length := ⟨_, rfl⟩
            rw [← hY] at HCK HBK T hkn HFR ⊢
            rw [← hM] at HCK HBK hkn hq2 ER HFR
            clear hY hM er hro
            go_wp2_with fail
            go_loopw [6, 67] (fun v6 i wi => ∃ s : Nat, s ≤ M ∧ i = .int .i64 s ∧ v6 = .slice (some ⟨gp, 0, none⟩) (Y + s) N ∧ StM W0 wi W0.heap.size go gp go N xss.length (Y + s) (P2 (tmF (enN xss) xss.length) (Y + s)) vl (opR (enN xss) xss.length k xss.length 0)) (fun _ i _ => M - (intOf i).toNat)
            case atStart => exact ⟨0, Nat.zero_le _, rfl, rfl, T⟩
            case round =>
              clear T hq2 hq3
              obtain ⟨s, hs, rfl, rfl, T⟩ := hrel
              by_cases hsl : s < M
              · have hro := T.r.o.row k (by rw [hlr]; exact hlt)
                rw [HFR.out, ER.out] at hro
                have hrl : (fmap (fun s => (tmF (enN xss) xss.length (Y + s) : Int)) M).length = M := fmap_len _ _
                obtain ⟨gr, rfl, hr0, hr1⟩ := hro.head (by omega)
                have ⟨cr, _⟩ := hro.at' hrl.symm (i := s) (by omega)
                rw [fmap_nth _ hsl] at cr
                obtain ⟨X, hX⟩ : ∃ X, X = tmF (enN xss) xss.length (Y + s) := ⟨_, rfl⟩
                have hXY := HBK.out s hsl
                rw [← hX] at cr hXY
                obtain ⟨L, hL⟩ : ∃ L, L = Y + s := ⟨_, rfl⟩
                have HL1 : Hid (Y + (s + 1) = L + 1) := by rw [Hid]; omega
                have HP2 : Hid ((P2 (tmF (enN xss) xss.length) L).set X (L : Int) ++ [(X : Int)] = P2 (tmF (enN xss) xss.length) (L+1)) := by
                  have := P2_close (F := tmF (enN xss) xss.length) (N := N) (L := L) HIN.out (by omega) (by rw [hL, ← hX]; omega)
                  rw [hL, ← hX, ← hL] at this
                  exact this
                rw [← hL] at T ⊢
                have hLN : L < N := by omega
                have hXL : X < L := by omega
                have ⟨cp, fp⟩ := T.o.at' T.l.symm (i := X) (by rw [T.l]; exact hXL)
                have HT1 := Lib.hid (T.putP X (L : Int))
                have HLN : Hid (((P2 (tmF (enN xss) xss.length) L).set X (L : Int)).length = L) := HT1.out.l
                have hrb := T.b.size
                clear hX hXY hL hro T
                go_wp2_with (at_builtin; refine wpList_append_fits _ rfl _ _ 26 rfl W0.heap.size 3 i0 1 Try.underlying26 hi hz1 gp L N (((P2 (tmF (enN xss) xss.length) L).set X (L : Int)).map (Value.int .i64)) rfl (by have h := HT1.out.o.alloc (.cells #[.int .i64 (X : Int)] 3); unfold OwnI at h; rw [HT1.out.l] at h; exact h) ⟨wr.heap.size, 0, none⟩ 1 1 [.int .i64 (X : Int)] rfl rfl (by have h := cell_one_new (wr.setCell ⟨gp, X, none⟩ (.int .i64 (L : Int))) (.int .i64 (X : Int)) 3; rw [World.size_setCell] at h; exact h) (by intro u hu; simp at hu; subst hu; rfl) (by omega) ?_; intro w5 ho5 hg5; have T5 := HT1.out.push (ps' := P2 (tmF (enN xss) xss.length) (L+1)) (grown_alloc_set hg5) (by rw [← HP2.out]; unfold OwnI; rw [List.length_append, HLN.out, List.map_append]; exact ho5) (P2_len _ _); have HT5 := Lib.hid T5; clear T5 ho5 hg5)
                go_roundw
                case rel => exact ⟨s + 1, by omega, by go_num, by rw [HL1.out], by rw [HL1.out]; exact HT5.out⟩
                case measure => simp [intOf]; omega
              · obtain rfl : s = M := by omega
                rw [HCK.out, HNI.out] at T
                rw [HCK.out]
                go_wp2_with fail
                go_roundw
                case rel => exact ⟨k + 1, vl, by omega, by go_num, rfl, T⟩
                case measure => simp [intOf]; omega
      · obtain rfl : k = xss.length := by omega
        rw [← HN.out] at T ⊢
        have HTT : Hid ((tmL xss).length = N) := by rw [Hid, HTL.out, P2_len]
        have ho := T.o
        have hbb := T.b
        clear T
        go_wp2_with fail
        refine bodyPost_ret (v := .tuple #[.slice (some ⟨gp, 0, none⟩) N N, .bool true]) (by simp [results, Try.results12, go_sem]) rfl ?_
        exact ⟨some ⟨gp, 0, none⟩, N, by rw [HTT.out], by rw [HTT.out, HTL.out]; exact ho.mono bw0.size, bw0.trans (hbb.mono bw0.size)⟩

theorem iTidyM_any (a : Option Addr) (xs : List Int) (cap : Nat) (w : World) (hx : Rd w a xs) :
    Calls Try.prog 23 #[.slice a xs.length cap] w (GotI w (tdL xs) (mcB xs)) := by
  have HC := Lib.hid (fun W (hr : Rd W a xs) => iMxMt_any a xs cap W hr)
  have HSZ := Lib.hid (mtmL_len xs)
  cases hb0 : mcB xs
  · have HL : Hid (tdL xs = []) := by simp [Hid, tdL, hb0]
    rw [hb0] at HC
    obtain ⟨L, hL⟩ : ∃ L, L = mtmL xs := ⟨_, rfl⟩
    rw [← hL] at HC
    clear hb0 hL
    go_enter Try.func23, Try.ntmps23
    go_wp2_with fail
    refine (HC.out _ hx).mono ?_
    rintro e w1 ⟨a1, c1, vl, rfl, hro, hb⟩
    have b1 := hb.alloc hb.size (.cells #[.slice a1 L.length c1] 29)
    clear hro
    go_wp2_with fail
    refine bodyPost_ret (v := .tuple #[.slice none 0 0, .bool false]) (by simp [results, Try.results23, go_sem]) rfl ?_
    exact gotI_no HL.out rfl b1
  · have HL : Hid (tdL xs = tmL (mtmL xs)) := by simp [Hid, tdL, hb0]
    have HG := Lib.hid (mt_good hb0)
    rw [hb0] at HC
    obtain ⟨L, hL⟩ : ∃ L, L = mtmL xs := ⟨_, rfl⟩
    rw [← hL] at HC HG HL HSZ
    clear hb0 hL
    go_enter Try.func23, Try.ntmps23
    go_wp2_with fail
    refine (HC.out _ hx).mono ?_
    rintro e w1 ⟨a1, c1, vl, rfl, hro, hb⟩
    have b1 := hb.alloc hb.size (.cells #[.slice a1 L.length c1] 29)
    have hrc := hro.rdC.below (show Below w1.heap.size w1 (w1.alloc (.cells #[.slice a1 L.length c1] 29)) from (Below.refl _ _).alloc (Nat.le_refl _) _)
    have HCC := Lib.hid (iMtMx_any a1 L c1 _ hrc HSZ.out)
    unfold GotI at HCC
    rw [HG.out] at HCC
    clear hro hrc
    go_wp2_with fail
    refine HCC.out.mono ?_
    rintro e w3 ⟨a3, c3, rfl, ho3, hb3⟩
    go_wp2_with fail
    refine bodyPost_ret (v := .tuple #[.slice a3 (tmL L).length c3, .bool true]) (by simp [results, Try.results23, go_sem]) rfl ?_
    exact ⟨a3, c3, by rw [HL.out], by rw [HL.out]; exact ho3.mono b1.size, b1.trans (hb3.mono b1.size)⟩

theorem markIntS_any (a : Option Addr) (xs : List Int) (cap : Nat) (k : Int) (B : Nat) (w : World) (h0 : 0 ≤ k) (h1 : k ≤ 1099511627776) (hn : xs.length ≤ 1048576) (ho : OwnI w B (.slice a xs.length cap) xs) :
    Calls Try.prog 16 #[.slice a xs.length cap, .int .i64 k] w fun e w' => e = .returned (.int .i64 (k + xs.length)) ∧ OwnI w' B (.slice a xs.length cap) (marks k xs.length) ∧ w.grownBy w' (Value.slice a xs.length cap).ownBlock := by
  go_enter Try.func16, Try.ntmps16
  go_wp2_with fail
  go_loopw [1, 5] (fun k' i wr => ∃ j : Nat, j ≤ xs.length ∧ i = .int .i64 j ∧ k' = .int .i64 (k + j) ∧ wr.ownsRow B 3 1 (.slice a xs.length cap) xs.length ((marks k j ++ xs.drop j).map (Value.int .i64)) ∧ w.grownBy wr (Value.slice a xs.length cap).ownBlock) (fun _ i _ => xs.length - (intOf i).toNat)
  case atStart => exact ⟨0, Nat.zero_le _, rfl, by simp, by (have e : marks k 0 ++ xs.drop 0 = xs := by simp [marks]); rw [e]; exact ho, World.grownBy.refl _ _⟩
  case round =>
    obtain ⟨j, hj, rfl, rfl, hown, hg⟩ := hrel
    by_cases hlt : j < xs.length
    · obtain ⟨g, rfl⟩ : ∃ g, a = some ⟨g, 0, none⟩ := by
        rcases hown.2 with ⟨e, h⟩ | ⟨g, c, cur, e, _⟩
        · omega
        · simp only [Value.slice.injEq] at e
          exact ⟨g, e.1⟩
      have hst := World.ownsRow.stored hown j (.int .i64 (k + j))
      rw [mark_step k xs j hlt] at hst
      have hcc := World.ownsRow.cellAt hown j (by omega)
      have hfr := World.ownsRow.frozenAt hown j
      have hcc' : ∃ u, wr.cell? ⟨g, j, none⟩ = some u := by
        rw [hcc]
        exact ⟨_, List.getElem?_eq_getElem (by simp [marks_len]; omega)⟩
      obtain ⟨u, hu⟩ := hcc'
      have Hst := Lib.hid hst
      have Hg := Lib.hid (grown_trans hg hst.2)
      clear hst hcc hown hg
      go_wp2
      go_roundw
      case rel => exact ⟨j + 1, by omega, by go_num, by go_num, Hst.out.1, Hg.out⟩
      case measure => simp [intOf]; omega
    · obtain rfl : j = xs.length := by omega
      go_wp2
      go_ret
      refine ⟨rfl, ?_, hg⟩
      have e : marks k xs.length ++ xs.drop xs.length = marks k xs.length := by simp
      rw [e] at hown
      show World.ownsRow _ _ _ _ _ _ _
      rw [marks_len]
      exact hown

theorem heldIntS_any (a : Option Addr) (n cap : Nat) (k : Int) (w : World) (h0 : 0 ≤ k) (h1 : k ≤ 1099511627776) (hn : n ≤ 1048576) (hx : Rd w a (marks k n)) :
    Calls Try.prog 17 #[.slice a n cap, .int .i64 k] w fun e w' => e = .returned (.int .i64 (k + n)) ∧ Below w.heap.size w w' := by
  go_enter Try.func17, Try.ntmps17
  go_wp2_with fail
  go_loop [1, 5] (fun k' i => ∃ j : Nat, j ≤ n ∧ i = .int .i64 j ∧ k' = .int .i64 (k + j)) (fun _ i => n - (intOf i).toNat)
  case atStart => exact ⟨0, Nat.zero_le _, rfl, by simp⟩
  case round =>
    obtain ⟨j, hj, rfl, rfl⟩ := hrel
    by_cases hlt : j < n
    · obtain ⟨b, off, rfl, hbl, hc⟩ := hx.cell j (by rw [marks_len]; exact hlt)
      rw [marks_nth hlt] at hc
      go_wp2_with fail
      go_round
      case rel => exact ⟨j + 1, by omega, by go_num, by go_num⟩
      case measure => simp [intOf]; omega
    · obtain rfl : j = n := by omega
      go_wp2_with fail
      go_ret
      exact ⟨rfl, (by repeat (first | exact Below.refl _ _ | assumption | refine Below.alloc ?_ (by first | exact Nat.le_refl _ | (simp only [World.size_alloc, World.size_setCell, World.size_drew]; omega) | omega) _ | refine Below.setCell ?_ (by first | exact Nat.le_refl _ | (simp only [World.size_alloc, World.size_setCell, World.size_drew]; omega) | omega) _ | refine Below.drew ?_))⟩

theorem walk (a0 : Option Addr) (xs0 : List Int) (cap0 : Nat) (w : World) (hx0 : Rd w a0 xs0) :
    Calls Try.prog 5 #[.slice a0 xs0.length cap0] w fun e w' => e = .returned (.bool true) ∧ Below w.heap.size w w' := by
  have hR0 : (tdL xs0).length ≤ 1048576 := tdL_len xs0
  by_cases hs0 : 1048576 < (xs0.length : Int)
  · go_enter Try.func5, Try.ntmps5
    go_wp2_with fail
    go_ret
    exact ⟨rfl, (by repeat (first | exact Below.refl _ _ | assumption | refine Below.alloc ?_ (by first | exact Nat.le_refl _ | (simp only [World.size_alloc, World.size_setCell, World.size_drew]; omega) | omega) _ | refine Below.setCell ?_ (by first | exact Nat.le_refl _ | (simp only [World.size_alloc, World.size_setCell, World.size_drew]; omega) | omega) _ | refine Below.drew ?_))⟩
  go_enter Try.func5, Try.ntmps5
  go_wp2_with fail
  refine (toIntS_any _ _ _ _ (hx0.below (Below.refl _ _)) (by omega)).mono ?_
  rintro e w1 ⟨pT0, qT0, rfl, ho, hb⟩
  have ht : Below w.heap.size w w1 := Below.trans (by repeat (first | exact Below.refl _ _ | assumption | refine Below.alloc ?_ (by first | exact Nat.le_refl _ | (simp only [World.size_alloc, World.size_setCell, World.size_drew]; omega) | omega) _ | refine Below.setCell ?_ (by first | exact Nat.le_refl _ | (simp only [World.size_alloc, World.size_setCell, World.size_drew]; omega) | omega) _ | refine Below.drew ?_)) (hb.mono (by first | (simp only [World.size_alloc, World.size_setCell, World.size_drew]; omega) | omega))
  have z1 : w.heap.size ≤ w1.heap.size := ht.size
  have bw1 : Below w.heap.size w w1 := ht
  have T0_1 := ho
  have UT0 := T0_1.cut (Nat.le_refl _)
  clear ho
  clear ht hb
  go_wp2_with fail
  refine (sTidyM_any _ _ _ _ (T0_1.rd)).mono ?_
  rintro e w2 ⟨pR0, qR0, rfl, ho0, hb⟩
  have ht : Below w1.heap.size w1 w2 := hb
  have z2 : w1.heap.size ≤ w2.heap.size := ht.size
  have bw2 : Below w.heap.size w w2 := bw1.trans (ht.mono bw1.size)
  have T0_2 := T0_1.below ht (Nat.le_refl _)
  clear T0_1
  have R0_2 := ho0
  have UR0 := R0_2.cut (Nat.le_refl _)
  clear ho0
  clear ht hb
  go_wp2_with fail
  clear T0_2 UT0
  refine (toIntS_any _ _ _ _ (hx0.below bw2) (by omega)).mono ?_
  rintro e w3 ⟨pX0, qX0, rfl, ho, hb⟩
  have ht : Below w2.heap.size w2 w3 := hb
  have z3 : w2.heap.size ≤ w3.heap.size := ht.size
  have bw3 : Below w.heap.size w w3 := bw2.trans (ht.mono bw2.size)
  have R0_3 := R0_2.below ht (Nat.le_refl _)
  clear R0_2
  have X0_3 := ho
  have UX0 := X0_3.cut (Nat.le_refl _)
  clear ho
  clear ht hb
  go_wp2_with fail
  refine (iTidyM_any _ _ _ _ (X0_3.rd)).mono ?_
  rintro e w4 ⟨pG0, qG0, rfl, ho0, hb⟩
  have ht : Below w3.heap.size w3 w4 := hb
  have z4 : w3.heap.size ≤ w4.heap.size := ht.size
  have bw4 : Below w.heap.size w w4 := bw3.trans (ht.mono bw3.size)
  have R0_4 := R0_3.below ht (Nat.le_refl _)
  have X0_4 := X0_3.below ht (Nat.le_refl _)
  clear R0_3 X0_3
  have G0_4 := ho0
  have UG0 := G0_4.cut (Nat.le_refl _)
  clear ho0
  clear ht hb
  go_wp2_with fail
  refine (eqIntS_any _ _ (tdL xs0) (tdL xs0) _ _ _ (G0_4.rd) (R0_4.rd)).mono ?_
  rw [eqL_self]
  rintro e w5 ⟨rfl, hb⟩
  have ht : Below w4.heap.size w4 w5 := hb
  have z5 : w4.heap.size ≤ w5.heap.size := ht.size
  have bw5 : Below w.heap.size w w5 := bw4.trans (ht.mono bw4.size)
  have R0_5 := R0_4.below ht (Nat.le_refl _)
  have X0_5 := X0_4.below ht (Nat.le_refl _)
  have G0_5 := G0_4.below ht (Nat.le_refl _)
  clear R0_4 X0_4 G0_4
  clear ht hb
  go_wp2_with fail
  refine (toIntS_any _ _ _ _ (hx0.below bw5) (by omega)).mono ?_
  rintro e w6 ⟨pY0, qY0, rfl, ho, hb⟩
  have ht : Below w5.heap.size w5 w6 := hb
  have z6 : w5.heap.size ≤ w6.heap.size := ht.size
  have bw6 : Below w.heap.size w w6 := bw5.trans (ht.mono bw5.size)
  have R0_6 := R0_5.below ht (Nat.le_refl _)
  have X0_6 := X0_5.below ht (Nat.le_refl _)
  have G0_6 := G0_5.below ht (Nat.le_refl _)
  clear R0_5 X0_5 G0_5
  have Y0_6 := ho
  have UY0 := Y0_6.cut (Nat.le_refl _)
  clear ho
  clear ht hb
  go_wp2_with fail
  refine (eqIntS_any _ _ xs0 xs0 _ _ _ X0_6.rd Y0_6.rd).mono ?_
  rw [eqL_self]
  rintro e w7 ⟨rfl, hb⟩
  have ht : Below w6.heap.size w6 w7 := hb
  have z7 : w6.heap.size ≤ w7.heap.size := ht.size
  have bw7 : Below w.heap.size w w7 := bw6.trans (ht.mono bw6.size)
  have R0_7 := R0_6.below ht (Nat.le_refl _)
  have X0_7 := X0_6.below ht (Nat.le_refl _)
  have G0_7 := G0_6.below ht (Nat.le_refl _)
  have Y0_7 := Y0_6.below ht (Nat.le_refl _)
  clear R0_6 X0_6 G0_6 Y0_6
  clear ht hb
  go_wp2_with fail
  clear Y0_7 UY0
  refine (markIntS_any _ _ _ _ _ _ (by omega) (by omega) (by omega) X0_7).mono ?_
  rintro e w8 ⟨rfl, ho, hg⟩
  have z8 : w7.heap.size ≤ w8.heap.size := hg.size
  have bw8 : Below w.heap.size w w8 := bw7.trans (below_of_grown hg (fun b e => by have := UX0 b e; omega) (by omega))
  have R0_8 := R0_7.kept hg (own_ne (fun c e e2 => by have h1 := UR0 c e; have h2 := UX0 c e2; omega))
  have G0_8 := G0_7.kept hg (own_ne (fun c e e2 => by have h1 := UG0 c e; have h2 := UX0 c e2; omega))
  clear R0_7 X0_7 G0_7 hg
  have X0_8 := ho
  clear ho
  go_wp2_with fail
  refine (eqIntS_any _ _ (tdL xs0) (tdL xs0) _ _ _ (G0_8.rd) (R0_8.rd)).mono ?_
  rw [eqL_self]
  rintro e w9 ⟨rfl, hb⟩
  have ht : Below w8.heap.size w8 w9 := hb
  have z9 : w8.heap.size ≤ w9.heap.size := ht.size
  have bw9 : Below w.heap.size w w9 := bw8.trans (ht.mono bw8.size)
  have R0_9 := R0_8.below ht (Nat.le_refl _)
  have X0_9 := X0_8.below ht (Nat.le_refl _)
  have G0_9 := G0_8.below ht (Nat.le_refl _)
  clear R0_8 X0_8 G0_8
  clear ht hb
  go_wp2_with fail
  refine (markIntS_any _ _ _ _ _ _ (by omega) (by omega) hR0 G0_9).mono ?_
  rintro e w10 ⟨rfl, ho, hg⟩
  have z10 : w9.heap.size ≤ w10.heap.size := hg.size
  have bw10 : Below w.heap.size w w10 := bw9.trans (below_of_grown hg (fun b e => by have := UG0 b e; omega) (by omega))
  have R0_10 := R0_9.kept hg (own_ne (fun c e e2 => by have h1 := UR0 c e; have h2 := UG0 c e2; omega))
  have X0_10 := X0_9.kept hg (own_ne (fun c e e2 => by have h1 := UX0 c e; have h2 := UG0 c e2; omega))
  clear R0_9 X0_9 G0_9 hg
  have G0_10 := ho
  clear ho
  go_wp2_with fail
  refine (heldIntS_any _ _ _ _ _ (by omega) (by omega) hR0 G0_10.rd).mono ?_
  rintro e w11 ⟨rfl, hb⟩
  have ht : Below w10.heap.size w10 w11 := hb
  have z11 : w10.heap.size ≤ w11.heap.size := ht.size
  have bw11 : Below w.heap.size w w11 := bw10.trans (ht.mono bw10.size)
  have R0_11 := R0_10.below ht (Nat.le_refl _)
  have X0_11 := X0_10.below ht (Nat.le_refl _)
  have G0_11 := G0_10.below ht (Nat.le_refl _)
  clear R0_10 X0_10 G0_10
  clear ht hb
  go_wp2_with fail
  clear X0_11 UX0
  refine (toIntS_any _ _ _ _ (hx0.below bw11) (by omega)).mono ?_
  rintro e w12 ⟨pV0, qV0, rfl, ho, hb⟩
  have ht : Below w11.heap.size w11 w12 := hb
  have z12 : w11.heap.size ≤ w12.heap.size := ht.size
  have bw12 : Below w.heap.size w w12 := bw11.trans (ht.mono bw11.size)
  have R0_12 := R0_11.below ht (Nat.le_refl _)
  have G0_12 := G0_11.below ht (Nat.le_refl _)
  clear R0_11 G0_11
  have V0_12 := ho
  have UV0 := V0_12.cut (Nat.le_refl _)
  clear ho
  clear ht hb
  go_wp2_with fail
  refine (iTidyM_any _ _ _ _ (V0_12.rd)).mono ?_
  rintro e w13 ⟨pH0, qH0, rfl, ho0, hb⟩
  have ht : Below w12.heap.size w12 w13 := hb
  have z13 : w12.heap.size ≤ w13.heap.size := ht.size
  have bw13 : Below w.heap.size w w13 := bw12.trans (ht.mono bw12.size)
  have R0_13 := R0_12.below ht (Nat.le_refl _)
  have G0_13 := G0_12.below ht (Nat.le_refl _)
  have V0_13 := V0_12.below ht (Nat.le_refl _)
  clear R0_12 G0_12 V0_12
  have H0_13 := ho0
  have UH0 := H0_13.cut (Nat.le_refl _)
  clear ho0
  clear ht hb
  go_wp2_with fail
  clear V0_13 UV0
  refine (eqIntS_any _ _ (tdL xs0) (tdL xs0) _ _ _ (H0_13.rd) (R0_13.rd)).mono ?_
  rw [eqL_self]
  rintro e w14 ⟨rfl, hb⟩
  have ht : Below w13.heap.size w13 w14 := hb
  have z14 : w13.heap.size ≤ w14.heap.size := ht.size
  have bw14 : Below w.heap.size w w14 := bw13.trans (ht.mono bw13.size)
  have R0_14 := R0_13.below ht (Nat.le_refl _)
  have G0_14 := G0_13.below ht (Nat.le_refl _)
  have H0_14 := H0_13.below ht (Nat.le_refl _)
  clear R0_13 G0_13 H0_13
  clear ht hb
  go_wp2_with fail
  refine (heldIntS_any _ _ _ _ _ (by omega) (by omega) hR0 G0_14.rd).mono ?_
  rintro e w15 ⟨rfl, hb⟩
  have ht : Below w14.heap.size w14 w15 := hb
  have z15 : w14.heap.size ≤ w15.heap.size := ht.size
  have bw15 : Below w.heap.size w w15 := bw14.trans (ht.mono bw14.size)
  have R0_15 := R0_14.below ht (Nat.le_refl _)
  have G0_15 := G0_14.below ht (Nat.le_refl _)
  have H0_15 := H0_14.below ht (Nat.le_refl _)
  clear R0_14 G0_14 H0_14
  clear ht hb
  go_wp2_with fail
  go_ret
  exact ⟨rfl, bw15⟩

theorem rd_of_trod {H : Type} {enc : TypeId × Value → H} {W : World} {fuel : Nat} {c : Value} {y : DataW H × List MemPlace}
    (h : DataW.trod enc Try.prog W 0 (fun _ => true) true fuel 26 [c] = some y) : ∃ (a : Option Addr) (xs : List Int) (cap : Nat), c = .slice a xs.length cap ∧ Rd W a xs ∧ ∀ k, k < xs.length → (Lit.int .i64 (nth xs k)).wf = true := by
  rcases Go.ChangeShapes.open_ints Try.underlying26 Try.underlying3 (by kernel_rfl) h with ⟨hcs, _⟩ | ⟨x, len, cap, zs, hcs, _, hl, hm, hz, _, hcell, hwf⟩
  · simp only [List.cons.injEq, and_true] at hcs
    exact ⟨none, [], 0, hcs, ⟨by simp, fun k hk => by simp at hk⟩, fun k hk => by simp at hk⟩
  · simp only [List.cons.injEq, and_true] at hcs
    simp only [if_true] at hz
    have hlen : (zs.take len).length = len := by rw [List.length_take]; omega
    have hn : ∀ k, k < len → nth (zs.take len) k = zs.getD k 0 := by
      intro k hk
      simp only [nth, List.getD_eq_getElem?_getD, List.getElem?_take, hk, if_true]
    refine ⟨some x, zs.take len, cap, by rw [hlen]; exact hcs, ⟨by rw [hlen]; unfold maxLen at hm; omega, fun k hk => ?_⟩, fun k hk => ?_⟩
    · rw [hlen] at hk
      obtain ⟨b, off, sp⟩ := x
      have h0 := hcell 0 (by omega)
      have hsp : sp = none := by simpa [Addr.add] using World.cell?_spot h0
      subst hsp
      have hk' := hcell k (by omega)
      rw [Addr.add_lit] at hk'
      exact ⟨b, off, rfl, World.block_lt_of_cell? _ _ h0, by rw [hk', hn k hk]⟩
    · rw [hlen] at hk
      rw [hn k hk]
      have hk2 : k < zs.length := by omega
      exact hwf _ (by rw [List.getD_eq_getElem?_getD, List.getElem?_eq_getElem hk2]; exact List.getElem_mem hk2)

theorem own : ownKnob Try.prog.godebug = none := by kernel_rfl
theorem laidOut : laidOutB Try.prog = true := by kernel_rfl
theorem wf_bd {n : Int} (h : (Lit.int .i64 n).wf = true) : -9223372036854775808 ≤ n ∧ n ≤ 9223372036854775807 := by
  simp [Lit.wf, IntKind.min, IntKind.max, IntKind.bits, IntKind.signed] at h
  omega

open Go.ChangeShapes Go.WideShapes Go.ChangeAt Go.RowKit in
set_option maxRecDepth 100000 in
theorem lifted (os : Os) (started : os.Started) (H : Type) (enc : TypeId × Value → H) :
    ReturnsInHanded {} Try.checked os 5 .any (Rows.fnExactTidyMatchingSpec.pre6 enc Try.prog Try.f5 Rows.fnExactTidyMatchingRow.domain false) (Rows.fnExactTidyMatchingSpec.post enc Try.prog Try.f5 false true false false) := by
  refine returnsInHanded_of_change (C := Try.checked) own started (by kernel_rfl) Try.func5
    (ChangeSpec.witness6 (enc := enc) (C := Try.checked) false ⟨#[], #[.slice none 0 0], []⟩ 8 (by kernel_rfl) (by kernel_rfl) (by kernel_rfl) (by kernel_rfl)) ?_
  intro W base args ds gs before hval0 hW hcnd _
  have hval : ∀ (j : Nat) t v, Try.f5.params[j]? = some t → args[j]? = some v → Value.okWide Try.prog W .any base t v := hval0
  have hW' := hW
  obtain ⟨p, q, hA0, hV, rfl, hfz, hnd⟩ := hW
  have hA : DataW.TrodAll enc Try.prog W 0 (fun _ => true) true Try.f5.params.toList args.toList ds p := hA0
  rw [Try.params5] at hA hval
  obtain ⟨v0, vs0, d0, ds0, p0, q0, hargs, rfl, rfl, h0, r0⟩ := trodAll_cons hA
  obtain ⟨rfl, rfl, rfl⟩ := trodAll_nil r0
  obtain rfl : args = #[v0] := by cases args; simp_all
  obtain ⟨rfl, rfl⟩ := trodVars_none hV
  have lt0 : ∀ x ∈ p0, x.block < W.heap.size := by obtain ⟨m, hm⟩ := h0; exact DataW.trod_lt m _ _ _ hm
  obtain ⟨a0, len0, cap0, rfl⟩ := okWide_slice Try.underlying26 (hval 0 26 v0 rfl rfl)
  obtain ⟨a0, xs0, cap0, e0, rd0, wl0⟩ := (by obtain ⟨fu, hf⟩ := h0; simp only [Value.cells] at hf; exact rd_of_trod hf : ∃ (a : Option Addr) (xs : List Int) (cap : Nat), Value.slice a0 len0 cap0 = .slice a xs.length cap ∧ Rd W a xs ∧ ∀ k, k < xs.length → (Lit.int .i64 (nth xs k)).wf = true)
  simp only [Value.slice.injEq] at e0
  obtain ⟨rfl, rfl, rfl⟩ := e0
  clear hA0 hval0
  refine (walk a0 xs0 cap0 W rd0).mono fun e W' ⟨he, bel⟩ => ?_
  subst he
  exact ⟨_, rfl, _, _, _, [], _, [], hW', trodAll_mk1 (shut_bool Try.underlying4 _), (trodAll_cons_mk (Below.trod laidOut (by kernel_rfl) (of_decide_eq_true (by kernel_rfl)) h0 bel lt0) trodAll_mk0), rfl, bel.frame _, fun h => by cases h⟩
theorem proved : Rows.FnExactTidyMatchingSaid :=
  OpenClaim.holds_of_wide 5 Try.f5 rfl rfl rfl rfl rfl rfl rfl ⟨rfl, rfl, rfl, rfl, rfl⟩ rfl rfl rfl rfl rfl (by kernel_rfl) Try.func5 (by kernel_rfl)
    (of_decide_eq_true (by kernel_rfl)) (by unfold Func.isWrapper; first | (rw [if_pos (by decide +kernel)]; kernel_rfl) | (rw [if_neg (by decide +kernel)]; exact ⟨rfl, rfl⟩))
    (fun os started H enc _ => lifted os started H enc)

end Go.Proofs.Ytjolgaaggpnkhaa.tidyMatching
