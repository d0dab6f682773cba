/- PROVED: the law FnExactRowSums returns true for every input, and each of its arguments reads afterwards as before. No conditions. -/
import Derived.Test.YtcklfnpgnbhklaaRows
import Derived.WalkKit
import Derived.WalkSpells
import Derived.WalkLawsBesides
import Derived.Deep.QuietTactic
import Derived.BigQuiet
import Derived.ProofKit
import Derived.OpenShut
import Derived.ShutString
import Derived.ChangeOld
import Derived.Below
import Derived.Lib.SmallJoins
import Derived.Lib.Hide
import Derived.Deep.RegionHeld3
import Derived.Maps.AppendAt
import Derived.Deep.AppendLies
import Derived.Deep.RegionLaw
import Derived.Deep.Matrix
import Derived.Test.YtcklfnpgnbhklaaRowSumsP1
namespace Go.Proofs.Ytcklfnpgnbhklaa.rowSums
open Go Go.RowKit
set_option linter.unusedVariables false
set_option linter.unusedSimpArgs false
set_option maxHeartbeats 400000
theorem walk (a0 : Option Addr) (xss0 : List (List Int)) (cap0 : Nat) (w : World) (hx0 : RdS w a0 xss0) :
    Calls Try.prog 6 #[.agg #[.slice a0 xss0.length cap0]] w fun e w' => e = .returned (.bool true) ∧ Below w.heap.size w w' := by
  have hR0 : (rsL xss0).length ≤ 1048576 := rsL_len xss0
  have hR1 : (csL xss0).length ≤ 1048576 := csL_len xss0
  by_cases hs0 : 1048576 < ((xss0.length + totS xss0 xss0.length : Nat) : Int)
  · go_enter Try.func6, Try.ntmps6
    go_wp2_with fail
    refine (szMx_no (by omega) (hx0.below ((Below.refl _ _).alloc (by first | exact Nat.le_refl _ | simp) _))).mono ?_
    rintro e w1 ⟨rfl, hb1⟩
    have bw1 : Below w.heap.size w w1 := Below.trans (by repeat (first | exact Below.refl _ _ | assumption | refine Below.alloc ?_ (by first | exact Nat.le_refl _ | (simp only [World.size_alloc, World.size_setCell, World.size_drew]; omega) | omega) _ | refine Below.setCell ?_ (by first | exact Nat.le_refl _ | (simp only [World.size_alloc, World.size_setCell, World.size_drew]; omega) | omega) _ | refine Below.drew ?_)) (hb1.mono (by first | (simp only [World.size_alloc, World.size_setCell, World.size_drew]; omega) | omega))
    have A0_1 : Box1 w1 w.heap.size (.slice a0 xss0.length cap0) := ⟨by have := hb1.size; simp at this; omega, (hb1.cell (p := ⟨w.heap.size, 0, none⟩) (by simp <;> omega)).trans (by simp)⟩
    have ⟨zA0_1, cA0_1⟩ := A0_1
    go_wp2_with fail
    go_ret
    exact ⟨rfl, bw1⟩
  go_enter Try.func6, Try.ntmps6
  go_wp2_with fail
  refine (szMx_ok (by omega) (hx0.below ((Below.refl _ _).alloc (by first | exact Nat.le_refl _ | simp) _))).mono ?_
  rintro e w1 ⟨rfl, hb⟩
  have bw1 : Below w.heap.size w w1 := Below.trans (by repeat (first | exact Below.refl _ _ | assumption | refine Below.alloc ?_ (by first | exact Nat.le_refl _ | (simp only [World.size_alloc, World.size_setCell, World.size_drew]; omega) | omega) _ | refine Below.setCell ?_ (by first | exact Nat.le_refl _ | (simp only [World.size_alloc, World.size_setCell, World.size_drew]; omega) | omega) _ | refine Below.drew ?_)) (hb.mono (by first | (simp only [World.size_alloc, World.size_setCell, World.size_drew]; omega) | omega))
  have z1 : w.heap.size ≤ w1.heap.size := bw1.size
  have A0_1 : Box1 w1 w.heap.size (.slice a0 xss0.length cap0) := ⟨by have := hb.size; simp at this; omega, (hb.cell (p := ⟨w.heap.size, 0, none⟩) (by simp <;> omega)).trans (by simp)⟩
  have ⟨zA0_1, cA0_1⟩ := A0_1
  clear hb
  go_wp2_with fail
  refine (toMx_any _ _ _ _ (hx0.below bw1) (by omega)).mono ?_
  rintro e w2 ⟨pT0, qT0, lT0, rfl, ho, hb⟩
  have ht : Below w1.heap.size w1 w2 := hb
  have z2 : w1.heap.size ≤ w2.heap.size := ht.size
  have bw2 : Below w.heap.size w w2 := bw1.trans (ht.mono bw1.size)
  have A0_2 := A0_1.below ht
  have ⟨zA0_2, cA0_2⟩ := A0_2
  clear A0_1 cA0_1
  have T0_2 := ho
  have UT0 := T0_2.cut (Nat.le_refl _)
  clear ho
  clear ht hb
  go_wp2_with fail
  refine (sRowSums_any _ _ _ _ (T0_2.rdC) (by omega)).mono ?_
  rintro e w3 ⟨pR0, qR0, pR1, qR1, rfl, ho0, ho1, hsR, hb⟩
  have ht : Below w2.heap.size w2 w3 := hb
  have z3 : w2.heap.size ≤ w3.heap.size := ht.size
  have bw3 : Below w.heap.size w w3 := bw2.trans (ht.mono bw2.size)
  have A0_3 := A0_2.below ht
  have ⟨zA0_3, cA0_3⟩ := A0_3
  have T0_3 := T0_2.below ht (Nat.le_refl _)
  clear A0_2 cA0_2 T0_2
  have R0_3 := ho0
  have UR0 := R0_3.cut (Nat.le_refl _)
  clear ho0
  have R1_3 := ho1
  have UR1 := R1_3.cut (Nat.le_refl _)
  clear ho1
  clear ht hb
  go_wp2_with fail
  clear T0_3 UT0
  refine (toMx_any _ _ _ _ (hx0.below bw3) (by omega)).mono ?_
  rintro e w4 ⟨pX0, qX0, lX0, rfl, ho, hb⟩
  have ht : Below w3.heap.size w3 w4 := hb
  have z4 : w3.heap.size ≤ w4.heap.size := ht.size
  have bw4 : Below w.heap.size w w4 := bw3.trans (ht.mono bw3.size)
  have A0_4 := A0_3.below ht
  have ⟨zA0_4, cA0_4⟩ := A0_4
  have R0_4 := R0_3.below ht (Nat.le_refl _)
  have R1_4 := R1_3.below ht (Nat.le_refl _)
  clear A0_3 cA0_3 R0_3 R1_3
  have X0_4 := ho
  have UX0 := X0_4.cut (Nat.le_refl _)
  clear ho
  clear ht hb
  go_wp2_with fail
  refine (iRowSums_any _ _ _ _ (X0_4.rdC.below (by repeat (first | exact Below.refl _ _ | assumption | refine Below.alloc ?_ (by first | exact Nat.le_refl _ | (simp only [World.size_alloc, World.size_setCell, World.size_drew]; omega) | omega) _ | refine Below.setCell ?_ (by first | exact Nat.le_refl _ | (simp only [World.size_alloc, World.size_setCell, World.size_drew]; omega) | omega) _ | refine Below.drew ?_))) (by omega)).mono ?_
  rintro e w5 ⟨pG0, qG0, pG1, qG1, rfl, ho0, ho1, hsG, hb⟩
  have ht : Below w4.heap.size w4 w5 := Below.trans (by repeat (first | exact Below.refl _ _ | assumption | refine Below.alloc ?_ (by first | exact Nat.le_refl _ | (simp only [World.size_alloc, World.size_setCell, World.size_drew]; omega) | omega) _ | refine Below.setCell ?_ (by first | exact Nat.le_refl _ | (simp only [World.size_alloc, World.size_setCell, World.size_drew]; omega) | omega) _ | refine Below.drew ?_)) (hb.mono (by first | (simp only [World.size_alloc, World.size_setCell, World.size_drew]; omega) | omega))
  have z5 : w4.heap.size ≤ w5.heap.size := ht.size
  have bw5 : Below w.heap.size w w5 := bw4.trans (ht.mono bw4.size)
  have A0_5 := A0_4.below ht
  have BX0_5 : Box1 w5 w4.heap.size (.slice (some ⟨pX0, 0, none⟩) xss0.length qX0) := (Box1.new w4 _ 27).below hb
  have ⟨zA0_5, cA0_5⟩ := A0_5
  have ⟨zBX0_5, cBX0_5⟩ := BX0_5
  have R0_5 := R0_4.below ht (Nat.le_refl _)
  have R1_5 := R1_4.below ht (Nat.le_refl _)
  have X0_5 := X0_4.below ht (Nat.le_refl _)
  clear A0_4 cA0_4 R0_4 R1_4 X0_4
  have G0_5 := ho0
  have UG0 := G0_5.cut (Nat.le_refl _); simp only [World.size_alloc] at UG0
  clear ho0
  have G1_5 := ho1
  have UG1 := G1_5.cut (Nat.le_refl _); simp only [World.size_alloc] at UG1
  clear ho1
  clear ht hb
  go_wp2_with fail
  refine (eqIntS_any _ _ (rsL xss0) (rsL xss0) _ _ _ (G0_5.rd) (R0_5.rd)).mono ?_
  rw [eqL_self]
  rintro e w6 ⟨rfl, hb⟩
  have ht : Below w5.heap.size w5 w6 := hb
  have z6 : w5.heap.size ≤ w6.heap.size := ht.size
  have bw6 : Below w.heap.size w w6 := bw5.trans (ht.mono bw5.size)
  have A0_6 := A0_5.below ht
  have BX0_6 := BX0_5.below ht
  have ⟨zA0_6, cA0_6⟩ := A0_6
  have ⟨zBX0_6, cBX0_6⟩ := BX0_6
  have R0_6 := R0_5.below ht (Nat.le_refl _)
  have R1_6 := R1_5.below ht (Nat.le_refl _)
  have X0_6 := X0_5.below ht (Nat.le_refl _)
  have G0_6 := G0_5.below ht (Nat.le_refl _)
  have G1_6 := G1_5.below ht (Nat.le_refl _)
  clear A0_5 cA0_5 BX0_5 cBX0_5 R0_5 R1_5 X0_5 G0_5 G1_5
  clear ht hb
  go_wp2_with fail
  refine (eqIntS_any _ _ (csL xss0) (csL xss0) _ _ _ (G1_6.rd) (R1_6.rd)).mono ?_
  rw [eqL_self]
  rintro e w7 ⟨rfl, hb⟩
  have ht : Below w6.heap.size w6 w7 := hb
  have z7 : w6.heap.size ≤ w7.heap.size := ht.size
  have bw7 : Below w.heap.size w w7 := bw6.trans (ht.mono bw6.size)
  have A0_7 := A0_6.below ht
  have BX0_7 := BX0_6.below ht
  have ⟨zA0_7, cA0_7⟩ := A0_7
  have ⟨zBX0_7, cBX0_7⟩ := BX0_7
  have R0_7 := R0_6.below ht (Nat.le_refl _)
  have R1_7 := R1_6.below ht (Nat.le_refl _)
  have X0_7 := X0_6.below ht (Nat.le_refl _)
  have G0_7 := G0_6.below ht (Nat.le_refl _)
  have G1_7 := G1_6.below ht (Nat.le_refl _)
  clear A0_6 cA0_6 BX0_6 cBX0_6 R0_6 R1_6 X0_6 G0_6 G1_6
  clear ht hb
  go_wp2_with fail
  go_region_held3 (fun w' => w'.cell? ⟨w.heap.size, 0, none⟩ = some (.slice a0 xss0.length cap0) ∧ w'.cell? ⟨w4.heap.size, 0, none⟩ = some (.slice (some ⟨pX0, 0, none⟩) xss0.length qX0))
    (first | exact ⟨P9.2, Q9.2⟩ | exact ⟨P8.2, Q8.2⟩ | go_keep)
    (first | (go_at_call 14; refine (toMx_any _ _ _ _ (hx0.below (bw7.trans (Joins.below_draws _ _ _))) (by omega)).mono ?_; rintro e w8 ⟨a8', cap8', l8', rfl, ho8, hb8⟩; have ht8 : Below w7.heap.size w7 w8 := (Joins.below_draws _ _ _).trans hb8; have P8 := A0_7.below ht8; have Q8 := BX0_7.below ht8) | (go_at_call 16; refine (eqMx_any _ _ xss0 _ _ _ (X0_7.rd.below ht8) ho8.rd).mono ?_; rintro e w9 ⟨rfl, hb9⟩; have P9 := P8.below hb9; have Q9 := Q8.below hb9))
  have ht : Below w7.heap.size w7 w9 := ht8.trans (hb9.mono ht8.size)
  have z9 : w7.heap.size ≤ w9.heap.size := ht.size
  have bw9 : Below w.heap.size w w9 := bw7.trans (ht.mono bw7.size)
  clear P8 Q8 P9 Q9 ho8
  have A0_9 := A0_7.below ht
  have BX0_9 := BX0_7.below ht
  have ⟨zA0_9, cA0_9⟩ := A0_9
  have ⟨zBX0_9, cBX0_9⟩ := BX0_9
  have R0_9 := R0_7.below ht (Nat.le_refl _)
  have R1_9 := R1_7.below ht (Nat.le_refl _)
  have X0_9 := X0_7.below ht (Nat.le_refl _)
  have G0_9 := G0_7.below ht (Nat.le_refl _)
  have G1_9 := G1_7.below ht (Nat.le_refl _)
  clear A0_7 cA0_7 BX0_7 cBX0_7 R0_7 R1_7 X0_7 G0_7 G1_7
  clear ht hb9 ht8 hb8
  go_wp2_with fail
  refine (markMx_arg _ _ _ _ _ _ w3.heap.size w4.heap.size _ (by omega) (by omega) (by omega) X0_9 (fun i hi c e => by have h1 := UX0.2 i hi c e; have h2 := UX0.1; omega)).mono ?_
  rintro e w10 ⟨rfl, hg⟩
  have z10 : w9.heap.size ≤ w10.heap.size := hg.size
  have bw10 : Below w.heap.size w w10 := bw9.trans (hg.below (by omega) (by omega))
  have A0_10 := A0_9.touch hg (by omega)
  have ⟨zA0_10, cA0_10⟩ := A0_10
  have BX0_10 := BX0_9.touch hg (by omega)
  have ⟨zBX0_10, cBX0_10⟩ := BX0_10
  have R0_10 := R0_9.touch hg (fun c e => by have := UR0 c e; omega)
  have R1_10 := R1_9.touch hg (fun c e => by have := UR1 c e; omega)
  have G0_10 := G0_9.touch hg (fun c e => by have := UG0 c e; omega)
  have G1_10 := G1_9.touch hg (fun c e => by have := UG1 c e; omega)
  clear A0_9 cA0_9 BX0_9 cBX0_9 R0_9 R1_9 X0_9 G0_9 G1_9 hg UX0
  go_wp2_with fail
  refine (eqIntS_any _ _ (rsL xss0) (rsL xss0) _ _ _ (G0_10.rd) (R0_10.rd)).mono ?_
  rw [eqL_self]
  rintro e w11 ⟨rfl, hb⟩
  have ht : Below w10.heap.size w10 w11 := hb
  have z11 : w10.heap.size ≤ w11.heap.size := ht.size
  have bw11 : Below w.heap.size w w11 := bw10.trans (ht.mono bw10.size)
  have A0_11 := A0_10.below ht
  have BX0_11 := BX0_10.below ht
  have ⟨zA0_11, cA0_11⟩ := A0_11
  have ⟨zBX0_11, cBX0_11⟩ := BX0_11
  have R0_11 := R0_10.below ht (Nat.le_refl _)
  have R1_11 := R1_10.below ht (Nat.le_refl _)
  have G0_11 := G0_10.below ht (Nat.le_refl _)
  have G1_11 := G1_10.below ht (Nat.le_refl _)
  clear A0_10 cA0_10 BX0_10 cBX0_10 R0_10 R1_10 G0_10 G1_10
  clear ht hb
  go_wp2_with fail
  refine (eqIntS_any _ _ (csL xss0) (csL xss0) _ _ _ (G1_11.rd) (R1_11.rd)).mono ?_
  rw [eqL_self]
  rintro e w12 ⟨rfl, hb⟩
  have ht : Below w11.heap.size w11 w12 := hb
  have z12 : w11.heap.size ≤ w12.heap.size := ht.size
  have bw12 : Below w.heap.size w w12 := bw11.trans (ht.mono bw11.size)
  have A0_12 := A0_11.below ht
  have BX0_12 := BX0_11.below ht
  have ⟨zA0_12, cA0_12⟩ := A0_12
  have ⟨zBX0_12, cBX0_12⟩ := BX0_12
  have R0_12 := R0_11.below ht (Nat.le_refl _)
  have R1_12 := R1_11.below ht (Nat.le_refl _)
  have G0_12 := G0_11.below ht (Nat.le_refl _)
  have G1_12 := G1_11.below ht (Nat.le_refl _)
  clear A0_11 cA0_11 BX0_11 cBX0_11 R0_11 R1_11 G0_11 G1_11
  clear ht hb
  go_wp2_with fail
  refine (markIntS_any _ _ _ _ _ _ (by omega) (by omega) hR0 G0_12).mono ?_
  rintro e w13 ⟨rfl, ho, hg⟩
  have z13 : w12.heap.size ≤ w13.heap.size := hg.size
  have bw13 : Below w.heap.size w w13 := bw12.trans (below_of_grown hg (fun b e => by have := UG0 b e; omega) (by omega))
  have A0_13 := A0_12.kept hg (ne_own (fun c e => by have := UG0 c e; omega))
  have ⟨zA0_13, cA0_13⟩ := A0_13
  have BX0_13 := BX0_12.kept hg (ne_own (fun c e => by have := UG0 c e; omega))
  have ⟨zBX0_13, cBX0_13⟩ := BX0_13
  have R0_13 := R0_12.kept hg (own_ne (fun c e e2 => by have h1 := UR0 c e; have h2 := UG0 c e2; omega))
  have R1_13 := R1_12.kept hg (own_ne (fun c e e2 => by have h1 := UR1 c e; have h2 := UG0 c e2; omega))
  have G1_13 := G1_12.kept hg (own_ne (fun c e e2 => hsG c e2 e))
  clear A0_12 cA0_12 BX0_12 cBX0_12 R0_12 R1_12 G0_12 G1_12 hg
  have G0_13 := ho
  clear ho
  go_wp2_with fail
  refine (markIntS_any _ _ _ _ _ _ (by omega) (by omega) hR1 G1_13).mono ?_
  rintro e w14 ⟨rfl, ho, hg⟩
  have z14 : w13.heap.size ≤ w14.heap.size := hg.size
  have bw14 : Below w.heap.size w w14 := bw13.trans (below_of_grown hg (fun b e => by have := UG1 b e; omega) (by omega))
  have A0_14 := A0_13.kept hg (ne_own (fun c e => by have := UG1 c e; omega))
  have ⟨zA0_14, cA0_14⟩ := A0_14
  have BX0_14 := BX0_13.kept hg (ne_own (fun c e => by have := UG1 c e; omega))
  have ⟨zBX0_14, cBX0_14⟩ := BX0_14
  have R0_14 := R0_13.kept hg (own_ne (fun c e e2 => by have h1 := UR0 c e; have h2 := UG1 c e2; omega))
  have R1_14 := R1_13.kept hg (own_ne (fun c e e2 => by have h1 := UR1 c e; have h2 := UG1 c e2; omega))
  have G0_14 := G0_13.kept hg (own_ne (fun c e e2 => hsG c e e2))
  clear A0_13 cA0_13 BX0_13 cBX0_13 R0_13 R1_13 G0_13 G1_13 hg
  have G1_14 := ho
  clear ho
  go_wp2_with fail
  refine (heldIntS_any _ _ _ _ _ (by omega) (by omega) hR0 G0_14.rd).mono ?_
  rintro e w15 ⟨rfl, hb⟩
  have ht : Below w14.heap.size w14 w15 := hb
  have z15 : w14.heap.size ≤ w15.heap.size := ht.size
  have bw15 : Below w.heap.size w w15 := bw14.trans (ht.mono bw14.size)
  have A0_15 := A0_14.below ht
  have BX0_15 := BX0_14.below ht
  have ⟨zA0_15, cA0_15⟩ := A0_15
  have ⟨zBX0_15, cBX0_15⟩ := BX0_15
  have R0_15 := R0_14.below ht (Nat.le_refl _)
  have R1_15 := R1_14.below ht (Nat.le_refl _)
  have G0_15 := G0_14.below ht (Nat.le_refl _)
  have G1_15 := G1_14.below ht (Nat.le_refl _)
  clear A0_14 cA0_14 BX0_14 cBX0_14 R0_14 R1_14 G0_14 G1_14
  clear ht hb
  go_wp2_with fail
  refine (heldIntS_any _ _ _ _ _ (by omega) (by omega) hR1 G1_15.rd).mono ?_
  rintro e w16 ⟨rfl, hb⟩
  have ht : Below w15.heap.size w15 w16 := hb
  have z16 : w15.heap.size ≤ w16.heap.size := ht.size
  have bw16 : Below w.heap.size w w16 := bw15.trans (ht.mono bw15.size)
  have A0_16 := A0_15.below ht
  have BX0_16 := BX0_15.below ht
  have ⟨zA0_16, cA0_16⟩ := A0_16
  have ⟨zBX0_16, cBX0_16⟩ := BX0_16
  have R0_16 := R0_15.below ht (Nat.le_refl _)
  have R1_16 := R1_15.below ht (Nat.le_refl _)
  have G0_16 := G0_15.below ht (Nat.le_refl _)
  have G1_16 := G1_15.below ht (Nat.le_refl _)
  clear A0_15 cA0_15 BX0_15 cBX0_15 R0_15 R1_15 G0_15 G1_15
  clear ht hb
  go_wp2_with fail
  refine (toMx_any _ _ _ _ (hx0.below bw16) (by omega)).mono ?_
  rintro e w17 ⟨pV0, qV0, lV0, rfl, ho, hb⟩
  have ht : Below w16.heap.size w16 w17 := hb
  have z17 : w16.heap.size ≤ w17.heap.size := ht.size
  have bw17 : Below w.heap.size w w17 := bw16.trans (ht.mono bw16.size)
  have A0_17 := A0_16.below ht
  have BX0_17 := BX0_16.below ht
  have ⟨zA0_17, cA0_17⟩ := A0_17
  have ⟨zBX0_17, cBX0_17⟩ := BX0_17
  have R0_17 := R0_16.below ht (Nat.le_refl _)
  have R1_17 := R1_16.below ht (Nat.le_refl _)
  have G0_17 := G0_16.below ht (Nat.le_refl _)
  have G1_17 := G1_16.below ht (Nat.le_refl _)
  clear A0_16 cA0_16 BX0_16 cBX0_16 R0_16 R1_16 G0_16 G1_16
  have V0_17 := ho
  have UV0 := V0_17.cut (Nat.le_refl _)
  clear ho
  clear ht hb
  go_wp2_with fail
  refine (iRowSums_any _ _ _ _ (V0_17.rdC) (by omega)).mono ?_
  rintro e w18 ⟨pH0, qH0, pH1, qH1, rfl, ho0, ho1, hsH, hb⟩
  have ht : Below w17.heap.size w17 w18 := hb
  have z18 : w17.heap.size ≤ w18.heap.size := ht.size
  have bw18 : Below w.heap.size w w18 := bw17.trans (ht.mono bw17.size)
  have A0_18 := A0_17.below ht
  have BX0_18 := BX0_17.below ht
  have ⟨zA0_18, cA0_18⟩ := A0_18
  have ⟨zBX0_18, cBX0_18⟩ := BX0_18
  have R0_18 := R0_17.below ht (Nat.le_refl _)
  have R1_18 := R1_17.below ht (Nat.le_refl _)
  have G0_18 := G0_17.below ht (Nat.le_refl _)
  have G1_18 := G1_17.below ht (Nat.le_refl _)
  have V0_18 := V0_17.below ht (Nat.le_refl _)
  clear A0_17 cA0_17 BX0_17 cBX0_17 R0_17 R1_17 G0_17 G1_17 V0_17
  have H0_18 := ho0
  have UH0 := H0_18.cut (Nat.le_refl _)
  clear ho0
  have H1_18 := ho1
  have UH1 := H1_18.cut (Nat.le_refl _)
  clear ho1
  clear ht hb
  go_wp2_with fail
  clear V0_18 UV0
  refine (eqIntS_any _ _ (rsL xss0) (rsL xss0) _ _ _ (H0_18.rd) (R0_18.rd)).mono ?_
  rw [eqL_self]
  rintro e w19 ⟨rfl, hb⟩
  have ht : Below w18.heap.size w18 w19 := hb
  have z19 : w18.heap.size ≤ w19.heap.size := ht.size
  have bw19 : Below w.heap.size w w19 := bw18.trans (ht.mono bw18.size)
  have A0_19 := A0_18.below ht
  have BX0_19 := BX0_18.below ht
  have ⟨zA0_19, cA0_19⟩ := A0_19
  have ⟨zBX0_19, cBX0_19⟩ := BX0_19
  have R0_19 := R0_18.below ht (Nat.le_refl _)
  have R1_19 := R1_18.below ht (Nat.le_refl _)
  have G0_19 := G0_18.below ht (Nat.le_refl _)
  have G1_19 := G1_18.below ht (Nat.le_refl _)
  have H0_19 := H0_18.below ht (Nat.le_refl _)
  have H1_19 := H1_18.below ht (Nat.le_refl _)
  clear A0_18 cA0_18 BX0_18 cBX0_18 R0_18 R1_18 G0_18 G1_18 H0_18 H1_18
  clear ht hb
  go_wp2_with fail
  refine (eqIntS_any _ _ (csL xss0) (csL xss0) _ _ _ (H1_19.rd) (R1_19.rd)).mono ?_
  rw [eqL_self]
  rintro e w20 ⟨rfl, hb⟩
  have ht : Below w19.heap.size w19 w20 := hb
  have z20 : w19.heap.size ≤ w20.heap.size := ht.size
  have bw20 : Below w.heap.size w w20 := bw19.trans (ht.mono bw19.size)
  have A0_20 := A0_19.below ht
  have BX0_20 := BX0_19.below ht
  have ⟨zA0_20, cA0_20⟩ := A0_20
  have ⟨zBX0_20, cBX0_20⟩ := BX0_20
  have R0_20 := R0_19.below ht (Nat.le_refl _)
  have R1_20 := R1_19.below ht (Nat.le_refl _)
  have G0_20 := G0_19.below ht (Nat.le_refl _)
  have G1_20 := G1_19.below ht (Nat.le_refl _)
  have H0_20 := H0_19.below ht (Nat.le_refl _)
  have H1_20 := H1_19.below ht (Nat.le_refl _)
  clear A0_19 cA0_19 BX0_19 cBX0_19 R0_19 R1_19 G0_19 G1_19 H0_19 H1_19
  clear ht hb
  go_wp2_with fail
  refine (heldIntS_any _ _ _ _ _ (by omega) (by omega) hR0 G0_20.rd).mono ?_
  rintro e w21 ⟨rfl, hb⟩
  have ht : Below w20.heap.size w20 w21 := hb
  have z21 : w20.heap.size ≤ w21.heap.size := ht.size
  have bw21 : Below w.heap.size w w21 := bw20.trans (ht.mono bw20.size)
  have A0_21 := A0_20.below ht
  have BX0_21 := BX0_20.below ht
  have ⟨zA0_21, cA0_21⟩ := A0_21
  have ⟨zBX0_21, cBX0_21⟩ := BX0_21
  have R0_21 := R0_20.below ht (Nat.le_refl _)
  have R1_21 := R1_20.below ht (Nat.le_refl _)
  have G0_21 := G0_20.below ht (Nat.le_refl _)
  have G1_21 := G1_20.below ht (Nat.le_refl _)
  have H0_21 := H0_20.below ht (Nat.le_refl _)
  have H1_21 := H1_20.below ht (Nat.le_refl _)
  clear A0_20 cA0_20 BX0_20 cBX0_20 R0_20 R1_20 G0_20 G1_20 H0_20 H1_20
  clear ht hb
  go_wp2_with fail
  refine (heldIntS_any _ _ _ _ _ (by omega) (by omega) hR1 G1_21.rd).mono ?_
  rintro e w22 ⟨rfl, hb⟩
  have ht : Below w21.heap.size w21 w22 := hb
  have z22 : w21.heap.size ≤ w22.heap.size := ht.size
  have bw22 : Below w.heap.size w w22 := bw21.trans (ht.mono bw21.size)
  have A0_22 := A0_21.below ht
  have BX0_22 := BX0_21.below ht
  have ⟨zA0_22, cA0_22⟩ := A0_22
  have ⟨zBX0_22, cBX0_22⟩ := BX0_22
  have R0_22 := R0_21.below ht (Nat.le_refl _)
  have R1_22 := R1_21.below ht (Nat.le_refl _)
  have G0_22 := G0_21.below ht (Nat.le_refl _)
  have G1_22 := G1_21.below ht (Nat.le_refl _)
  have H0_22 := H0_21.below ht (Nat.le_refl _)
  have H1_22 := H1_21.below ht (Nat.le_refl _)
  clear A0_21 cA0_21 BX0_21 cBX0_21 R0_21 R1_21 G0_21 G1_21 H0_21 H1_21
  clear ht hb
  go_wp2_with fail
  go_ret
  exact ⟨rfl, bw22⟩

theorem rd_of_trod {H : Type} {enc : TypeId × Value → H} {W : World} {fuel : Nat} {c : Value} {y : DataW H × List MemPlace}
    (h : DataW.trod enc Try.prog W 0 (fun _ => true) true fuel 33 [c] = some y) : ∃ (a : Option Addr) (xs : List Int) (cap : Nat), c = .slice a xs.length cap ∧ Rd W a xs ∧ ∀ k, k < xs.length → (Lit.int .i64 (nth xs k)).wf = true := by
  rcases Go.ChangeShapes.open_ints Try.underlying33 Try.underlying3 (by kernel_rfl) h with ⟨hcs, _⟩ | ⟨x, len, cap, zs, hcs, _, hl, hm, hz, _, hcell, hwf⟩
  · simp only [List.cons.injEq, and_true] at hcs
    exact ⟨none, [], 0, hcs, ⟨by simp, fun k hk => by simp at hk⟩, fun k hk => by simp at hk⟩
  · simp only [List.cons.injEq, and_true] at hcs
    simp only [if_true] at hz
    have hlen : (zs.take len).length = len := by rw [List.length_take]; omega
    have hn : ∀ k, k < len → nth (zs.take len) k = zs.getD k 0 := by
      intro k hk
      simp only [nth, List.getD_eq_getElem?_getD, List.getElem?_take, hk, if_true]
    refine ⟨some x, zs.take len, cap, by rw [hlen]; exact hcs, ⟨by rw [hlen]; unfold maxLen at hm; omega, fun k hk => ?_⟩, fun k hk => ?_⟩
    · rw [hlen] at hk
      obtain ⟨b, off, sp⟩ := x
      have h0 := hcell 0 (by omega)
      have hsp : sp = none := by simpa [Addr.add] using World.cell?_spot h0
      subst hsp
      have hk' := hcell k (by omega)
      rw [Addr.add_lit] at hk'
      exact ⟨b, off, rfl, World.block_lt_of_cell? _ _ h0, by rw [hk', hn k hk]⟩
    · rw [hlen] at hk
      rw [hn k hk]
      have hk2 : k < zs.length := by omega
      exact hwf _ (by rw [List.getD_eq_getElem?_getD, List.getElem?_eq_getElem hk2]; exact List.getElem_mem hk2)

theorem own : ownKnob Try.prog.godebug = none := by kernel_rfl
theorem laidOut : laidOutB Try.prog = true := by kernel_rfl
theorem wf_bd {n : Int} (h : (Lit.int .i64 n).wf = true) : -9223372036854775808 ≤ n ∧ n ≤ 9223372036854775807 := by
  simp [Lit.wf, IntKind.min, IntKind.max, IntKind.bits, IntKind.signed] at h
  omega

theorem rdS_of_trod {H : Type} {enc : TypeId × Value → H} {W : World} {fuel : Nat} {c : Value} {y : DataW H × List MemPlace}
    (h : DataW.trod enc Try.prog W 0 (fun _ => true) true fuel 22 [c] = some y) : ∃ (a : Option Addr) (xss : List (List Int)) (cap : Nat), c = .slice a xss.length cap ∧ RdS W a xss := by
  rcases Go.Deep.open_int_rows Try.underlying22 Try.underlying33 Try.underlying3 (by kernel_rfl) (by kernel_rfl) h with ⟨hcs, _⟩ | ⟨x, len, cap, A, L, C, Z, hcs, _, hl, hm, _, hr⟩
  · simp only [List.cons.injEq, and_true] at hcs
    exact ⟨none, [], 0, hcs, ⟨by simp, fun k hk => by simp at hk⟩⟩
  · simp only [List.cons.injEq, and_true] at hcs
    have hlen : ((List.range len).map fun r => (Z r).take (L r)).length = len := by simp
    refine ⟨some x, (List.range len).map fun r => (Z r).take (L r), cap, by rw [hlen]; exact hcs, ⟨by rw [hlen]; unfold maxLen at hm; omega, fun k hk => ?_⟩⟩
    rw [hlen] at hk
    rw [show rowL ((List.range len).map fun r => (Z r).take (L r)) k = (Z k).take (L k) by simp [rowL, hk]]
    obtain ⟨b, off, sp⟩ := x
    obtain ⟨h0, hLC, hCm, hZ, hwf, hnone, hcell⟩ := hr k (by omega)
    have hsp : sp = none := by simpa [Addr.add] using World.cell?_spot (hr 0 (by omega)).1
    subst hsp
    rw [Addr.add_lit] at h0
    have hlz : ((Z k).take (L k)).length = L k := by rw [List.length_take]; omega
    refine ⟨b, off, A k, C k, rfl, World.block_lt_of_cell? _ _ h0, by rw [hlz]; exact h0, ⟨by rw [hlz]; unfold maxLen at hCm; omega, fun c hc => ?_⟩⟩
    rw [hlz] at hc
    cases hA : A k with
    | none => have := hnone hA; omega
    | some a' =>
      have h1 := (hcell a' hA).2 c (by omega)
      obtain ⟨b', off', sp'⟩ := a'
      have hsp' : sp' = none := by simpa [Addr.add] using World.cell?_spot ((hcell _ hA).2 0 (by omega))
      subst hsp'
      rw [Addr.add_lit] at h1
      refine ⟨b', off', rfl, World.block_lt_of_cell? _ _ h1, ?_⟩
      rw [h1]
      simp [nth, List.getD_eq_getElem?_getD, List.getElem?_take, hc]

theorem cellsM : Try.prog.cellsOf 24 = 1 := by kernel_rfl
open Go.ChangeShapes Go.WideShapes Go.ChangeAt Go.RowKit in
theorem open_agg1 {H : Type} {enc : TypeId × Value → H} {P : Program} {w : World} {base : Nat} {spare : Nat → Bool} {held : Bool} {r : Reach} {b0 : Nat} {t : TypeId} {f0 : Field} {v : Value} {d : DataW H} {p : List MemPlace} (hs : P.underlying t = some (.struct #[f0])) (hone : f0.offset = 0 ∧ P.cellsOf f0.type = 1) (hC : P.cellsOf t = 1)
    (hv : Value.okWide P w r b0 t v) (h : DataW.Trod enc P w base spare held t v d p) :
    ∃ (v0 : Value) (y0 : DataW H × List MemPlace) (n : Nat), v = .agg #[v0] ∧ d = .agg [y0.1] ∧ p = y0.2 ∧ DataW.trod enc P w base spare held n f0.type [v0] = some y0 := by
  obtain ⟨cs, rfl, hsz⟩ := okWide_struct hs hv
  rw [hC] at hsz
  obtain ⟨l⟩ := cs
  obtain ⟨c0, rfl⟩ : ∃ c0, l = [c0] := by
    match l, hsz with
    | [c], _ => exact ⟨c, rfl⟩
  obtain ⟨fuel, hf⟩ := h
  obtain ⟨y0, n, hx, _, h0⟩ := trod_struct1 hs hf
  simp only [Prod.mk.injEq] at hx
  refine ⟨c0, y0, n, rfl, hx.1, hx.2, by simpa [Value.cells, hone.1, hone.2] using h0⟩

open Go.ChangeShapes Go.WideShapes Go.ChangeAt Go.RowKit in
set_option maxRecDepth 100000 in
theorem lifted (os : Os) (started : os.Started) (H : Type) (enc : TypeId × Value → H) :
    ReturnsInHanded {} Try.checked os 6 .any (Rows.fnExactRowSumsSpec.pre6 enc Try.prog Try.f6 Rows.fnExactRowSumsRow.domain false) (Rows.fnExactRowSumsSpec.post enc Try.prog Try.f6 false true false false) := by
  refine returnsInHanded_of_change (C := Try.checked) own started (by kernel_rfl) Try.func6
    (ChangeSpec.witness6 (enc := enc) (C := Try.checked) false ⟨#[], #[.agg #[.slice none 0 0]], []⟩ 8 (by kernel_rfl) (by kernel_rfl) (by kernel_rfl) (by kernel_rfl)) ?_
  intro W base args ds gs before hval0 hW hcnd _
  have hval : ∀ (j : Nat) t v, Try.f6.params[j]? = some t → args[j]? = some v → Value.okWide Try.prog W .any base t v := hval0
  have hW' := hW
  obtain ⟨p, q, hA0, hV, rfl, hfz, hnd⟩ := hW
  have hA : DataW.TrodAll enc Try.prog W 0 (fun _ => true) true Try.f6.params.toList args.toList ds p := hA0
  rw [Try.params6] at hA hval
  obtain ⟨v0, vs0, d0, ds0, p0, q0, hargs, rfl, rfl, h0, r0⟩ := trodAll_cons hA
  obtain ⟨rfl, rfl, rfl⟩ := trodAll_nil r0
  obtain rfl : args = #[v0] := by cases args; simp_all
  obtain ⟨rfl, rfl⟩ := trodVars_none hV
  have lt0 : ∀ x ∈ p0, x.block < W.heap.size := by obtain ⟨m, hm⟩ := h0; exact DataW.trod_lt m _ _ _ hm
  obtain ⟨c00, y00, m0, rfl, hd0, hp0, hy00⟩ := open_agg1 Try.underlying24 ⟨by kernel_rfl, by kernel_rfl⟩ cellsM (hval 0 24 v0 rfl rfl) h0
  obtain ⟨a0, xss0, cap0, rfl, rd0⟩ := rdS_of_trod hy00
  clear hA0 hval0
  refine (walk a0 xss0 cap0 W rd0).mono fun e W' ⟨he, bel⟩ => ?_
  subst he
  exact ⟨_, rfl, _, _, _, [], _, [], hW', trodAll_mk1 (shut_bool Try.underlying4 _), (trodAll_cons_mk (Below.trod laidOut (by kernel_rfl) (of_decide_eq_true (by kernel_rfl)) h0 bel lt0) trodAll_mk0), rfl, bel.frame _, fun h => by cases h⟩
theorem proved : Rows.FnExactRowSumsSaid :=
  OpenClaim.holds_of_wide 6 Try.f6 rfl rfl rfl rfl rfl rfl rfl ⟨rfl, rfl, rfl, rfl, rfl⟩ rfl rfl rfl rfl rfl (by kernel_rfl) Try.func6 (by kernel_rfl)
    (of_decide_eq_true (by kernel_rfl)) (by unfold Func.isWrapper; first | (rw [if_pos (by decide +kernel)]; kernel_rfl) | (rw [if_neg (by decide +kernel)]; exact ⟨rfl, rfl⟩))
    (fun os started H enc _ => lifted os started H enc)

end Go.Proofs.Ytcklfnpgnbhklaa.rowSums
