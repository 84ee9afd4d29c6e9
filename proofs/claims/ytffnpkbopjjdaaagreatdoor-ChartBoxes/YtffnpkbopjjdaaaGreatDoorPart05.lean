/-
  LOOPS, told by their heads.
-/
import Derived.Test.YtffnpkbopjjdaaaGreatDoorPart04
import Derived.ProofKit
set_option linter.unusedSectionVars false
set_option linter.unusedSimpArgs false
set_option linter.unusedVariables false
set_option maxRecDepth 100000
namespace Go.Proofs.YtffnpkbopjjdaaaGreatDoor
open Go Go.Eng
noncomputable def movsI0 (b : tBox.den) (x4 : Int) (x16 : Nat) : Cfg := ⟨.ex (pcOf F1 72 [0, 0, 1, 0, 1, 1]) ⟨(tmOf 33 [(0, (.agg [(.int .i64 (b.fst.fst)), (.int .i64 (b.fst.snd.fst)), (.int .i64 (b.snd.fst.fst)), (.int .i64 (b.snd.fst.snd.fst))])), (1, (.ptr 0 0)), (2, .nils), (3, .nils), (4, (.int .i64 x4)), (6, (.ptr 0 0)), (7, (.ptr 0 0)), (8, (.int .i64 (b.fst.fst)))]), (hpOf 1 [(0, (.cells false [(.int .i64 (b.fst.fst)), (.int .i64 (b.fst.snd.fst)), (.int .i64 (b.snd.fst.fst)), (.int .i64 (b.snd.fst.snd.fst))]))]), [], [], 33, false⟩, ⟨6, []⟩, [(.lop (pcOf F1 72 [0, 0, 1, 0, 1, 1]) 1 (tmOf 33 [(0, (.agg [(.int .i64 (b.fst.fst)), (.int .i64 (b.fst.snd.fst)), (.int .i64 (b.snd.fst.fst)), (.int .i64 (b.snd.fst.snd.fst))])), (1, (.ptr 0 0)), (2, .nils), (3, .nils), (4, (.int .i64 (b.fst.fst))), (6, (.ptr 0 0)), (7, (.ptr 0 0)), (8, (.int .i64 (b.fst.fst)))]) x16), (.blk 0), (.seq (pcOf F1 72 [1, 1, 1])), (.cal [(.tmp 2)] .top)]⟩
noncomputable def movsI1 (b : tBox.den) (x4 : Int) (x26 : Nat) (x33 : Nat) : Cfg := ⟨.ex (pcOf F1 72 [0, 0, 1, 0, 0, 1, 0, 0, 1, 0, 1, 1]) ⟨(tmOf 33 [(0, (.agg [(.int .i64 (b.fst.fst)), (.int .i64 (b.fst.snd.fst)), (.int .i64 (b.snd.fst.fst)), (.int .i64 (b.snd.fst.snd.fst))])), (1, (.ptr 0 0)), (2, .nils), (3, .nils), (4, (.int .i64 x4)), (5, (.int .i64 (b.snd.fst.fst))), (6, (.ptr 0 0)), (7, (.ptr 0 0)), (8, (.int .i64 (b.fst.fst))), (9, (.int .i64 x4)), (10, (.ptr 0 0)), (11, (.ptr 0 1)), (12, (.int .i64 (b.fst.snd.fst))), (13, (.bool (true))), (16, (.ptr 0 2)), (17, (.ptr 0 2)), (18, (.int .i64 (b.snd.fst.fst)))]), (hpOf 1 [(0, (.cells false [(.int .i64 (b.fst.fst)), (.int .i64 (b.fst.snd.fst)), (.int .i64 (b.snd.fst.fst)), (.int .i64 (b.snd.fst.snd.fst))]))]), [], [], 33, false⟩, ⟨6, []⟩, [(.lop (pcOf F1 72 [0, 0, 1, 0, 0, 1, 0, 0, 1, 0, 1, 1]) 1 (tmOf 33 [(0, (.agg [(.int .i64 (b.fst.fst)), (.int .i64 (b.fst.snd.fst)), (.int .i64 (b.snd.fst.fst)), (.int .i64 (b.snd.fst.snd.fst))])), (1, (.ptr 0 0)), (2, .nils), (3, .nils), (4, (.int .i64 x4)), (5, (.int .i64 (b.snd.fst.fst))), (6, (.ptr 0 0)), (7, (.ptr 0 0)), (8, (.int .i64 (b.fst.fst))), (9, (.int .i64 x4)), (10, (.ptr 0 0)), (11, (.ptr 0 1)), (12, (.int .i64 (b.fst.snd.fst))), (13, (.bool (true))), (16, (.ptr 0 2)), (17, (.ptr 0 2)), (18, (.int .i64 (b.snd.fst.fst)))]) x26), (.blk 2), (.blk 1), (.seq (pcOf F1 72 [1, 1, 0, 0, 1, 0, 1, 1])), (.lop (pcOf F1 72 [0, 0, 1, 0, 1, 1]) 1 (tmOf 33 [(0, (.agg [(.int .i64 (b.fst.fst)), (.int .i64 (b.fst.snd.fst)), (.int .i64 (b.snd.fst.fst)), (.int .i64 (b.snd.fst.snd.fst))])), (1, (.ptr 0 0)), (2, .nils), (3, .nils), (4, (.int .i64 (b.fst.fst))), (6, (.ptr 0 0)), (7, (.ptr 0 0)), (8, (.int .i64 (b.fst.fst)))]) x33), (.blk 0), (.seq (pcOf F1 72 [1, 1, 1])), (.cal [(.tmp 2)] .top)]⟩
noncomputable def movsI2 (b : tBox.den) (x4 : Nat) (x6 : Int) (x7 : Int) (x17 : List AV) (x29 : Nat) (x36 : Nat) : Cfg := ⟨.ex (pcOf F1 72 [0, 0, 1, 0, 0, 1, 0, 0, 1, 0, 1, 1]) ⟨(tmOf 33 [(0, (.agg [(.int .i64 (b.fst.fst)), (.int .i64 (b.fst.snd.fst)), (.int .i64 (b.snd.fst.fst)), (.int .i64 (b.snd.fst.snd.fst))])), (1, (.ptr 0 0)), (2, .nils), (3, (.sl 1 0 x4 x4 2)), (4, (.int .i64 x6)), (5, (.int .i64 x7)), (6, (.ptr 0 0)), (7, (.ptr 0 0)), (8, (.int .i64 (b.fst.fst))), (9, (.int .i64 x6)), (10, (.ptr 0 0)), (11, (.ptr 0 1)), (12, (.int .i64 (b.fst.snd.fst))), (13, (.bool (true))), (16, (.ptr 0 2)), (17, (.ptr 0 2)), (18, (.int .i64 (b.snd.fst.fst)))]), (hpOf 2 [(0, (.cells false [(.int .i64 (b.fst.fst)), (.int .i64 (b.fst.snd.fst)), (.int .i64 (b.snd.fst.fst)), (.int .i64 (b.snd.fst.snd.fst))])), (1, (.cells false x17))]), [], [], 33, false⟩, ⟨6, []⟩, [(.lop (pcOf F1 72 [0, 0, 1, 0, 0, 1, 0, 0, 1, 0, 1, 1]) 1 (tmOf 33 [(0, (.agg [(.int .i64 (b.fst.fst)), (.int .i64 (b.fst.snd.fst)), (.int .i64 (b.snd.fst.fst)), (.int .i64 (b.snd.fst.snd.fst))])), (1, (.ptr 0 0)), (2, .nils), (3, .nils), (4, (.int .i64 x6)), (5, (.int .i64 (b.snd.fst.fst))), (6, (.ptr 0 0)), (7, (.ptr 0 0)), (8, (.int .i64 (b.fst.fst))), (9, (.int .i64 x6)), (10, (.ptr 0 0)), (11, (.ptr 0 1)), (12, (.int .i64 (b.fst.snd.fst))), (13, (.bool (true))), (16, (.ptr 0 2)), (17, (.ptr 0 2)), (18, (.int .i64 (b.snd.fst.fst)))]) x29), (.blk 2), (.blk 1), (.seq (pcOf F1 72 [1, 1, 0, 0, 1, 0, 1, 1])), (.lop (pcOf F1 72 [0, 0, 1, 0, 1, 1]) 1 (tmOf 33 [(0, (.agg [(.int .i64 (b.fst.fst)), (.int .i64 (b.fst.snd.fst)), (.int .i64 (b.snd.fst.fst)), (.int .i64 (b.snd.fst.snd.fst))])), (1, (.ptr 0 0)), (2, .nils), (3, .nils), (4, (.int .i64 (b.fst.fst))), (6, (.ptr 0 0)), (7, (.ptr 0 0)), (8, (.int .i64 (b.fst.fst)))]) x36), (.blk 0), (.seq (pcOf F1 72 [1, 1, 1])), (.cal [(.tmp 2)] .top)]⟩
noncomputable def movsI3 (b : tBox.den) (x4 : Nat) (x6 : Int) (x12 : List AV) (x19 : Nat) : Cfg := ⟨.ex (pcOf F1 72 [0, 0, 1, 0, 1, 1]) ⟨(tmOf 33 [(0, (.agg [(.int .i64 (b.fst.fst)), (.int .i64 (b.fst.snd.fst)), (.int .i64 (b.snd.fst.fst)), (.int .i64 (b.snd.fst.snd.fst))])), (1, (.ptr 0 0)), (2, .nils), (3, (.sl 1 0 x4 x4 2)), (4, (.int .i64 x6)), (6, (.ptr 0 0)), (7, (.ptr 0 0)), (8, (.int .i64 (b.fst.fst)))]), (hpOf 2 [(0, (.cells false [(.int .i64 (b.fst.fst)), (.int .i64 (b.fst.snd.fst)), (.int .i64 (b.snd.fst.fst)), (.int .i64 (b.snd.fst.snd.fst))])), (1, (.cells false x12))]), [], [], 33, false⟩, ⟨6, []⟩, [(.lop (pcOf F1 72 [0, 0, 1, 0, 1, 1]) 1 (tmOf 33 [(0, (.agg [(.int .i64 (b.fst.fst)), (.int .i64 (b.fst.snd.fst)), (.int .i64 (b.snd.fst.fst)), (.int .i64 (b.snd.fst.snd.fst))])), (1, (.ptr 0 0)), (2, .nils), (3, .nils), (4, (.int .i64 (b.fst.fst))), (6, (.ptr 0 0)), (7, (.ptr 0 0)), (8, (.int .i64 (b.fst.fst)))]) x19), (.blk 0), (.seq (pcOf F1 72 [1, 1, 1])), (.cal [(.tmp 2)] .top)]⟩
noncomputable def movsI4 (b : tBox.den) (x4 : Nat) (x6 : Int) (x17 : List AV) (x31 : Nat) (x38 : Nat) : Cfg := ⟨.ex (pcOf F1 72 [0, 0, 1, 0, 0, 1, 0, 0, 1, 0, 1, 1]) ⟨(tmOf 33 [(0, (.agg [(.int .i64 (b.fst.fst)), (.int .i64 (b.fst.snd.fst)), (.int .i64 (b.snd.fst.fst)), (.int .i64 (b.snd.fst.snd.fst))])), (1, (.ptr 0 0)), (2, .nils), (3, (.sl 1 0 x4 x4 2)), (4, (.int .i64 x6)), (5, (.int .i64 (b.snd.fst.fst))), (6, (.ptr 0 0)), (7, (.ptr 0 0)), (8, (.int .i64 (b.fst.fst))), (9, (.int .i64 x6)), (10, (.ptr 0 0)), (11, (.ptr 0 1)), (12, (.int .i64 (b.fst.snd.fst))), (13, (.bool (true))), (16, (.ptr 0 2)), (17, (.ptr 0 2)), (18, (.int .i64 (b.snd.fst.fst)))]), (hpOf 2 [(0, (.cells false [(.int .i64 (b.fst.fst)), (.int .i64 (b.fst.snd.fst)), (.int .i64 (b.snd.fst.fst)), (.int .i64 (b.snd.fst.snd.fst))])), (1, (.cells false x17))]), [], [], 33, false⟩, ⟨6, []⟩, [(.lop (pcOf F1 72 [0, 0, 1, 0, 0, 1, 0, 0, 1, 0, 1, 1]) 2 (tmOf 33 [(0, (.agg [(.int .i64 (b.fst.fst)), (.int .i64 (b.fst.snd.fst)), (.int .i64 (b.snd.fst.fst)), (.int .i64 (b.snd.fst.snd.fst))])), (1, (.ptr 0 0)), (2, .nils), (3, (.sl 1 0 x4 x4 2)), (4, (.int .i64 x6)), (5, (.int .i64 (b.snd.fst.fst))), (6, (.ptr 0 0)), (7, (.ptr 0 0)), (8, (.int .i64 (b.fst.fst))), (9, (.int .i64 x6)), (10, (.ptr 0 0)), (11, (.ptr 0 1)), (12, (.int .i64 (b.fst.snd.fst))), (13, (.bool (true))), (16, (.ptr 0 2)), (17, (.ptr 0 2)), (18, (.int .i64 (b.snd.fst.fst)))]) x31), (.blk 2), (.blk 1), (.seq (pcOf F1 72 [1, 1, 0, 0, 1, 0, 1, 1])), (.lop (pcOf F1 72 [0, 0, 1, 0, 1, 1]) 1 (tmOf 33 [(0, (.agg [(.int .i64 (b.fst.fst)), (.int .i64 (b.fst.snd.fst)), (.int .i64 (b.snd.fst.fst)), (.int .i64 (b.snd.fst.snd.fst))])), (1, (.ptr 0 0)), (2, .nils), (3, .nils), (4, (.int .i64 (b.fst.fst))), (6, (.ptr 0 0)), (7, (.ptr 0 0)), (8, (.int .i64 (b.fst.fst)))]) x38), (.blk 0), (.seq (pcOf F1 72 [1, 1, 1])), (.cal [(.tmp 2)] .top)]⟩
noncomputable def movsI5 (b : tBox.den) (x4 : Nat) (x6 : Int) (x7 : Int) (x17 : List AV) (x22 : Nat) (x31 : Nat) (x38 : Nat) : Cfg := ⟨.ex (pcOf F1 72 [0, 0, 1, 0, 0, 1, 0, 0, 1, 0, 1, 1]) ⟨(tmOf 33 [(0, (.agg [(.int .i64 (b.fst.fst)), (.int .i64 (b.fst.snd.fst)), (.int .i64 (b.snd.fst.fst)), (.int .i64 (b.snd.fst.snd.fst))])), (1, (.ptr 0 0)), (2, .nils), (3, (.sl 2 0 x4 x4 2)), (4, (.int .i64 x6)), (5, (.int .i64 x7)), (6, (.ptr 0 0)), (7, (.ptr 0 0)), (8, (.int .i64 (b.fst.fst))), (9, (.int .i64 x6)), (10, (.ptr 0 0)), (11, (.ptr 0 1)), (12, (.int .i64 (b.fst.snd.fst))), (13, (.bool (true))), (16, (.ptr 0 2)), (17, (.ptr 0 2)), (18, (.int .i64 (b.snd.fst.fst)))]), (hpOf 3 [(0, (.cells false [(.int .i64 (b.fst.fst)), (.int .i64 (b.fst.snd.fst)), (.int .i64 (b.snd.fst.fst)), (.int .i64 (b.snd.fst.snd.fst))])), (1, .gone), (2, (.cells false x17))]), [], [], 33, false⟩, ⟨6, []⟩, [(.lop (pcOf F1 72 [0, 0, 1, 0, 0, 1, 0, 0, 1, 0, 1, 1]) 2 (tmOf 33 [(0, (.agg [(.int .i64 (b.fst.fst)), (.int .i64 (b.fst.snd.fst)), (.int .i64 (b.snd.fst.fst)), (.int .i64 (b.snd.fst.snd.fst))])), (1, (.ptr 0 0)), (2, .nils), (3, (.sl 1 0 x22 x22 2)), (4, (.int .i64 x6)), (5, (.int .i64 (b.snd.fst.fst))), (6, (.ptr 0 0)), (7, (.ptr 0 0)), (8, (.int .i64 (b.fst.fst))), (9, (.int .i64 x6)), (10, (.ptr 0 0)), (11, (.ptr 0 1)), (12, (.int .i64 (b.fst.snd.fst))), (13, (.bool (true))), (16, (.ptr 0 2)), (17, (.ptr 0 2)), (18, (.int .i64 (b.snd.fst.fst)))]) x31), (.blk 2), (.blk 1), (.seq (pcOf F1 72 [1, 1, 0, 0, 1, 0, 1, 1])), (.lop (pcOf F1 72 [0, 0, 1, 0, 1, 1]) 1 (tmOf 33 [(0, (.agg [(.int .i64 (b.fst.fst)), (.int .i64 (b.fst.snd.fst)), (.int .i64 (b.snd.fst.fst)), (.int .i64 (b.snd.fst.snd.fst))])), (1, (.ptr 0 0)), (2, .nils), (3, .nils), (4, (.int .i64 (b.fst.fst))), (6, (.ptr 0 0)), (7, (.ptr 0 0)), (8, (.int .i64 (b.fst.fst)))]) x38), (.blk 0), (.seq (pcOf F1 72 [1, 1, 1])), (.cal [(.tmp 2)] .top)]⟩
theorem movs_start (b : tBox.den) : adv F1 (Z1 [72]) 3000 (startC F1 72 [tBox.av b] 6) = some (.stop (movsI0 b (b.fst.fst) (1048575))) := by kernel_rfl
theorem movs_step0 (b : tBox.den) (x4 : Int) (x16 : Nat) : adv F1 (Z1 [72]) 3000 (movsI0 b x4 (x16 + 1)) = (bif ile x4 b.fst.snd.fst then some (.stop (movsI1 b (x4) (1048575) (x16 + 1))) else some (.done .nils)) := by kernel_rfl
theorem movs_step1 (b : tBox.den) (x4 : Int) (x26 : Nat) (x33 : Nat) : adv F1 (Z1 [72]) 3000 (movsI1 b x4 (x26 + 1) (x33 + 1)) = (bif ile b.snd.fst.fst b.snd.fst.snd.fst then some (.stop (movsI2 b (1) (x4) (wr IntKind.i64 (b.snd.fst.fst + 1)) ([AV.int IntKind.i64 x4, AV.int IntKind.i64 b.snd.fst.fst]) (x26) (x33 + 1))) else some (.stop (movsI0 b (wr IntKind.i64 (x4 + 1)) (x33)))) := by kernel_rfl
theorem movs_step2 (b : tBox.den) (x4 : Nat) (x6 : Int) (x7 : Int) (x17 : List AV) (x29 : Nat) (x36 : Nat) : adv F1 (Z1 [72]) 3000 (movsI2 b x4 x6 x7 x17 (x29 + 1) (x36 + 1)) = (bif ile x7 b.snd.fst.snd.fst then (bif (0 + x4 * F1.size 27).beq x17.length then (bif x4.ble 1048576 then (bif plO (AO.cells false (x17 ++ [AV.int IntKind.i64 x6, AV.int IntKind.i64 x7])) then some (.stop (movsI2 b (x4 + 1) (x6) (wr IntKind.i64 (x7 + 1)) (x17 ++ [AV.int IntKind.i64 x6, AV.int IntKind.i64 x7]) (x29) (x36 + 1))) else none) else none) else none) else (bif plO (AO.cells false x17) then some (.stop (movsI3 b (x4) (wr IntKind.i64 (x6 + 1)) (x17) (x36))) else none)) := by kernel_rfl
theorem movs_step3 (b : tBox.den) (x4 : Nat) (x6 : Int) (x12 : List AV) (x19 : Nat) : adv F1 (Z1 [72]) 3000 (movsI3 b x4 x6 x12 (x19 + 1)) = (bif ile x6 b.fst.snd.fst then some (.stop (movsI4 b (x4) (x6) (x12) (1048575) (x19 + 1))) else (bif plainL x12 then some (.done (.csl (x12) (x4))) else none)) := by kernel_rfl
theorem movs_step4 (b : tBox.den) (x4 : Nat) (x6 : Int) (x17 : List AV) (x31 : Nat) (x38 : Nat) : adv F1 (Z1 [72]) 3000 (movsI4 b x4 x6 x17 (x31 + 1) (x38 + 1)) = (bif ile b.snd.fst.fst b.snd.fst.snd.fst then (bif (0 + x4 * F1.size 27).beq x17.length then (bif x4.ble 1048576 then (bif plO (AO.cells false (x17 ++ [AV.int IntKind.i64 x6, AV.int IntKind.i64 b.snd.fst.fst])) then some (.stop (movsI5 b (x4 + 1) (x6) (wr IntKind.i64 (b.snd.fst.fst + 1)) (x17 ++ [AV.int IntKind.i64 x6, AV.int IntKind.i64 b.snd.fst.fst]) (x4) (x31) (x38 + 1))) else none) else none) else none) else (bif plO (AO.cells false x17) then some (.stop (movsI3 b (x4) (wr IntKind.i64 (x6 + 1)) (x17) (x38))) else none)) := by kernel_rfl
theorem movs_step5 (b : tBox.den) (x4 : Nat) (x6 : Int) (x7 : Int) (x17 : List AV) (x22 : Nat) (x31 : Nat) (x38 : Nat) : adv F1 (Z1 [72]) 3000 (movsI5 b x4 x6 x7 x17 x22 (x31 + 1) (x38 + 1)) = (bif ile x7 b.snd.fst.snd.fst then (bif (0 + x4 * F1.size 27).beq x17.length then (bif x4.ble 1048576 then (bif plO (AO.cells false (x17 ++ [AV.int IntKind.i64 x6, AV.int IntKind.i64 x7])) then some (.stop (movsI5 b (x4 + 1) (x6) (wr IntKind.i64 (x7 + 1)) (x17 ++ [AV.int IntKind.i64 x6, AV.int IntKind.i64 x7]) (x22) (x31) (x38 + 1))) else none) else none) else none) else (bif plO (AO.cells false x17) then some (.stop (movsI3 b (x4) (wr IntKind.i64 (x6 + 1)) (x17) (x38))) else none)) := by kernel_rfl
/-! ### All places of a box -/
theorem flatP_len (l : List tP.den) : (flat tP l).length = 2 * l.length := by
  induction l with
  | nil => rfl
  | cons a l ih => show (.int .i64 a.1 :: .int .i64 a.2.1 :: flat tP l : List AV).length = _; simp only [List.length_cons, ih]; omega
theorem flatP_plain (l : List tP.den) : plainL (flat tP l) = true := by
  induction l with
  | nil => rfl
  | cons a l ih => exact ih
theorem flatP_add (l : List tP.den) (x y : Int) : flat tP l ++ [.int .i64 x, .int .i64 y] = flat tP (l ++ [(x, y, ())]) := by
  unfold flat; rw [List.flatMap_append]; rfl
noncomputable def rowY (x y : Int) : Nat → List tP.den
  | 0 => []
  | r + 1 => (x, y, ()) :: rowY x (y + 1) r
noncomputable def ptsX (y0 : Int) (n : Nat) (x : Int) : Nat → List tP.den
  | 0 => []
  | r + 1 => rowY x y0 n ++ ptsX y0 n (x + 1) r
theorem rowY_len (x : Int) : ∀ (r : Nat) (y : Int), (rowY x y r).length = r
  | 0, _ => rfl
  | r + 1, y => by rw [rowY, List.length_cons, rowY_len x r]
theorem sizeF1 : F1.size 27 = 2 := by kernel_rfl
theorem beq_flat (l : List tP.den) : (0 + l.length * F1.size 27).beq (flat tP l).length = true := by
  rw [sizeF1, flatP_len, Nat.zero_add, Nat.mul_comm]; exact Nat.beq_refl _
section
variable (b : tBox.den) (x1 y0 y1 : Int) (n : Nat) (h1 : b.1.2.1 = x1) (h2 : b.2.1.1 = y0) (h3 : b.2.1.2.1 = y1) (hn : y0 + n = y1 + 1) (hy : -100000 ≤ y0 ∧ y1 ≤ 200000)
include h3 hy
theorem movs5 (x : Int) (hx : -200000 ≤ x ∧ x ≤ 200000) (rest : List tP.den) (M x22 : Nat) (N : Nat) (K : ∀ acc : List tP.den, acc.length ≤ N → Ans F1 (movsI3 b acc.length (x + 1) (flat tP acc) M) (.vs tP false (acc ++ rest))) (hN : N ≤ 1000000) :
    ∀ (r : Nat) (y : Int) (acc : List tP.den) (m : Nat), y + r = y1 + 1 → -200000 ≤ y → r < m → acc.length + r ≤ N → Ans F1 (movsI5 b acc.length x y (flat tP acc) x22 m (M + 1)) (.vs tP false (acc ++ (rowY x y r ++ rest)))
  | 0, y, acc, m + 1, hr, hy0, hm, hl => by
    have h := movs_step5 b acc.length x y (flat tP acc) x22 m M
    have e : ile y y1 = false := by rw [ile_iff]; simp; omega
    simp only [h3, e, cond_false, cond_true, plO, flatP_plain, wr_in (show -9223372036854775808 ≤ x + 1 by omega) (by omega)] at h
    exact .stop (Z1_ok _) F1sy h (K acc (by omega))
  | r + 1, y, acc, m + 1, hr, hy0, hm, hl => by
    have h := movs_step5 b acc.length x y (flat tP acc) x22 m M
    have e : ile y y1 = true := by rw [ile_iff]; simp; omega
    have e2 : acc.length.ble 1048576 = true := Nat.ble_eq_true_of_le (by omega)
    simp only [h3, e, e2, cond_true, plO, flatP_plain, flatP_add, wr_in (show -9223372036854775808 ≤ y + 1 by omega) (by omega)] at h
    rw [beq_flat, cond_true] at h
    have ih := movs5 x hx rest M x22 N K hN r (y + 1) (acc ++ [(x, y, ())]) m (by omega) (by omega) (by omega) (by simp; omega)
    rw [show (acc ++ [((x, y, ()) : tP.den)]).length = acc.length + 1 by simp] at ih
    refine .stopE (Z1_ok _) F1sy h ih ?_
    rw [rowY, List.append_assoc]; rfl
theorem movs2 (x : Int) (hx : -200000 ≤ x ∧ x ≤ 200000) (rest : List tP.den) (M : Nat) (N : Nat) (K : ∀ acc : List tP.den, acc.length ≤ N → Ans F1 (movsI3 b acc.length (x + 1) (flat tP acc) M) (.vs tP false (acc ++ rest))) (hN : N ≤ 1000000) :
    ∀ (r : Nat) (y : Int) (acc : List tP.den) (m : Nat), y + r = y1 + 1 → -200000 ≤ y → r < m → acc.length + r ≤ N → Ans F1 (movsI2 b acc.length x y (flat tP acc) m (M + 1)) (.vs tP false (acc ++ (rowY x y r ++ rest)))
  | 0, y, acc, m + 1, hr, hy0, hm, hl => by
    have h := movs_step2 b acc.length x y (flat tP acc) m M
    have e : ile y y1 = false := by rw [ile_iff]; simp; omega
    simp only [h3, e, cond_false, cond_true, plO, flatP_plain, wr_in (show -9223372036854775808 ≤ x + 1 by omega) (by omega)] at h
    exact .stop (Z1_ok _) F1sy h (K acc (by omega))
  | r + 1, y, acc, m + 1, hr, hy0, hm, hl => by
    have h := movs_step2 b acc.length x y (flat tP acc) m M
    have e : ile y y1 = true := by rw [ile_iff]; simp; omega
    have e2 : acc.length.ble 1048576 = true := Nat.ble_eq_true_of_le (by omega)
    simp only [h3, e, e2, cond_true, plO, flatP_plain, flatP_add, wr_in (show -9223372036854775808 ≤ y + 1 by omega) (by omega)] at h
    rw [beq_flat, cond_true] at h
    have ih := movs2 x hx rest M N K hN r (y + 1) (acc ++ [(x, y, ())]) m (by omega) (by omega) (by omega) (by simp; omega)
    rw [show (acc ++ [((x, y, ()) : tP.den)]).length = acc.length + 1 by simp] at ih
    refine .stopE (Z1_ok _) F1sy h ih ?_
    rw [rowY, List.append_assoc]; rfl
include h1 h2 hn
theorem movs3 (hn0 : 0 < n) (hn1 : n ≤ 1000) : ∀ (rx : Nat) (x : Int) (acc : List tP.den) (M : Nat), x + rx = x1 + 1 → (-200000 ≤ x ∧ x1 ≤ 199999) → rx < M → acc.length + rx * n ≤ 1000000 → Ans F1 (movsI3 b acc.length x (flat tP acc) M) (.vs tP false (acc ++ ptsX y0 n x rx))
  | 0, x, acc, M + 1, hr, hx, hm, hl => by
    have h := movs_step3 b acc.length x (flat tP acc) M
    have e : ile x x1 = false := by rw [ile_iff]; simp; omega
    simp only [h1, e, cond_false, cond_true, flatP_plain] at h
    rw [ptsX, List.append_nil]
    exact .doneT (Z1_ok _) F1sy h .csl
  | rx + 1, x, acc, M + 1, hr, hx, hm, hl => by
    have h := movs_step3 b acc.length x (flat tP acc) M
    have e : ile x x1 = true := by rw [ile_iff]; simp; omega
    simp only [h1, e, cond_true] at h
    refine .stop (Z1_ok _) F1sy h ?_
    have g := movs_step4 b acc.length x (flat tP acc) 1048574 M
    have e1 : ile y0 y1 = true := by rw [ile_iff]; simp; omega
    have hmul : (rx + 1) * n = rx * n + n := by rw [Nat.add_mul, Nat.one_mul]
    have e2 : acc.length.ble 1048576 = true := Nat.ble_eq_true_of_le (by omega)
    simp only [h2, h3, e1, e2, cond_true, plO, flatP_plain, flatP_add, wr_in (show -9223372036854775808 ≤ y0 + 1 by omega) (by omega)] at g
    rw [beq_flat, cond_true] at g
    refine .stop (Z1_ok _) F1sy g ?_
    obtain ⟨n', hn'⟩ : ∃ n', n = n' + 1 := ⟨n - 1, by omega⟩
    have key : rowY x y0 n = (x, y0, ()) :: rowY x (y0 + 1) n' := by rw [hn', rowY]
    have ih := movs5 b y0 y1 h3 hy x (by omega) (ptsX y0 n (x + 1) rx) M acc.length (acc.length + n) (fun a ha => movs3 hn0 hn1 rx (x + 1) a M (by omega) (by omega) (by omega) (by omega)) (by omega) n' (y0 + 1) (acc ++ [(x, y0, ())]) 1048574 (by omega) (by omega) (by omega) (by simp; omega)
    rw [show (acc ++ [((x, y0, ()) : tP.den)]).length = acc.length + 1 by simp] at ih
    rw [ptsX, key]
    rw [List.append_assoc] at ih
    exact ih
end
noncomputable def bK (x0 x1 y0 y1 : Int) : Bool := ile (-100000) x0 && ile x0 x1 && ile x1 100000 && ile (x1 - x0) 100 && (ile (-100000) y0 && ile y0 y1 && ile y1 100000 && ile (y1 - y0) 100)
theorem bK_iff {x0 x1 y0 y1 : Int} : bK x0 x1 y0 y1 = true ↔ (((-100000 ≤ x0 ∧ x0 ≤ x1) ∧ x1 ≤ 100000) ∧ x1 - x0 ≤ 100) ∧ (((-100000 ≤ y0 ∧ y0 ≤ y1) ∧ y1 ≤ 100000) ∧ y1 - y0 ≤ 100) := by
  simp only [bK, Bool.and_eq_true, ile_iff, decide_eq_true_eq]
noncomputable def pts (x0 x1 y0 y1 : Int) : List tP.den := ptsX y0 (y1 - y0 + 1).toNat x0 (x1 - x0 + 1).toNat
theorem movs_call (b : tBox.den) (hb : bK b.1.1 b.1.2.1 b.2.1.1 b.2.1.2.1 = true) : AnsF F1 72 [tBox.av b] (.vs tP false (pts b.1.1 b.1.2.1 b.2.1.1 b.2.1.2.1)) := by
  refine Ans.call (n := 6) (ext_none (by kernel_rfl)) (hasB_spec (by kernel_rfl)) (.stop (Z1_ok _) F1sy (movs_start b) ?_)
  obtain ⟨x0, h0⟩ : ∃ x : Int, b.1.1 = x := ⟨_, rfl⟩
  obtain ⟨x1, h1⟩ : ∃ x : Int, b.1.2.1 = x := ⟨_, rfl⟩
  obtain ⟨y0, h2⟩ : ∃ x : Int, b.2.1.1 = x := ⟨_, rfl⟩
  obtain ⟨y1, h3⟩ : ∃ x : Int, b.2.1.2.1 = x := ⟨_, rfl⟩
  rw [h0, h1, h2, h3, bK_iff] at hb
  rw [h0, h1, h2, h3]
  have a := movs_step0 b x0 1048574
  have e : ile x0 x1 = true := by rw [ile_iff]; simp; omega
  simp only [h1, e, cond_true] at a
  refine .stop (Z1_ok _) F1sy a ?_
  have g := movs_step1 b x0 1048574 1048574
  have e1 : ile y0 y1 = true := by rw [ile_iff]; simp; omega
  simp only [h2, h3, e1, cond_true, wr_in (show -9223372036854775808 ≤ y0 + 1 by omega) (by omega)] at g
  refine .stop (Z1_ok _) F1sy g ?_
  obtain ⟨ny, hny⟩ : ∃ k : Nat, (y1 - y0 + 1).toNat = k + 1 := ⟨(y1 - y0).toNat, by omega⟩
  obtain ⟨nx, hnx⟩ : ∃ k : Nat, (x1 - x0 + 1).toNat = k + 1 := ⟨(x1 - x0).toNat, by omega⟩
  have hmul : nx * (ny + 1) ≤ 100 * 101 := Nat.mul_le_mul (by omega) (by omega)
  have ih := movs2 b y0 y1 h3 (by omega) x0 (by omega) (ptsX y0 (ny + 1) (x0 + 1) nx) 1048574 (ny + 1) (fun a ha => movs3 b x1 y0 y1 (ny + 1) h1 h2 h3 (by omega) (by omega) (by omega) (by omega) nx (x0 + 1) a 1048574 (by omega) (by omega) (by omega) (by omega)) (by omega) ny (y0 + 1) [(x0, y0, ())] 1048574 (by omega) (by omega) (by omega) (by simp; omega)
  unfold pts
  rw [hny, hnx, ptsX, rowY]
  exact ih
end Go.Proofs.YtffnpkbopjjdaaaGreatDoor

/-
  LOOPS, told by their heads.
-/
set_option maxRecDepth 100000
namespace Go.Proofs.YtffnpkbopjjdaaaGreatDoor
open Go Go.Eng
theorem ckdy_start (c : tChart.den) (d m : Int) : adv F1 (Z1 []) 3000 (startC F1 77 [tChart.av c, .int .i64 d, .int .i64 m] 6) = (bif !ieq (chkS c).snd.snd 0 then some (.done (.int .i64 ((chkS c).snd.snd))) else (bif !ile 0 d then some (.done (.int .i64 (7))) else (bif !ile d 40000 then some (.done (.int .i64 (7))) else (bif !ile 0 m then some (.done (.int .i64 (4))) else (bif !ile m (wr IntKind.i64 (↑c.fst.snd.length - 1)) then some (.done (.int .i64 (4))) else some (.done (.int .i64 (0)))))))) := by kernel_rfl
theorem datd_start (c : tChart.den) (d m : Int) : adv F1 (Z1 []) 3000 (startC F1 79 [tChart.av c, .int .i64 d, .int .i64 m] 6) = (bif ieq (chkS c).snd.snd 0 then (bif ile 0 d then (bif !ile d 40000 then some (.done (.int .i64 (7))) else (bif ieq (chkS c).snd.snd 0 then (bif ile 0 m then (bif !ile m (wr IntKind.i64 (↑c.fst.snd.length - 1)) then some (.done (.int .i64 (4))) else some (.done (.int .i64 ((chkS c).snd.snd)))) else some (.done (.int .i64 (4)))) else some (.done (.int .i64 ((chkS c).snd.snd))))) else some (.done (.int .i64 (7)))) else (bif ieq (chkS c).snd.snd 0 then (bif ile 0 m then (bif !ile m (wr IntKind.i64 (↑c.fst.snd.length - 1)) then some (.done (.int .i64 (4))) else some (.done (.int .i64 ((chkS c).snd.snd)))) else some (.done (.int .i64 (4)))) else some (.done (.int .i64 ((chkS c).snd.snd))))) := by kernel_rfl
theorem ckst_start (c : tChart.den) (d m : Int) : adv F1 (Z1 []) 3000 (startC F1 81 [tChart.av c, .int .i64 d, .int .i64 m] 6) = (bif !ieq (chkS c).snd.snd 0 then (bif !ieq (chkS c).snd.snd 0 then some (.done (.int .i64 ((chkS c).snd.snd))) else (bif inB m c.fst.snd.length then (bif (c.fst.snd.getD m.toNat tMark.dflt).snd.snd.fst.snd.length.ble 1000 then (bif ieq (colF d 0 (c.fst.snd.getD m.toNat tMark.dflt).snd.snd.fst.snd) 0 then some (.done (.int .i64 (9))) else some (.done (.int .i64 (0)))) else none) else none)) else (bif !ile 0 d then some (.done (.int .i64 (7))) else (bif !ile d 40000 then some (.done (.int .i64 (7))) else (bif !ile 0 m then some (.done (.int .i64 (4))) else (bif !ile m (wr IntKind.i64 (↑c.fst.snd.length - 1)) then some (.done (.int .i64 (4))) else (bif inB m c.fst.snd.length then (bif (c.fst.snd.getD m.toNat tMark.dflt).snd.snd.fst.snd.length.ble 1000 then (bif ieq (colF d 0 (c.fst.snd.getD m.toNat tMark.dflt).snd.snd.fst.snd) 0 then some (.done (.int .i64 (9))) else some (.done (.int .i64 (0)))) else none) else none)))))) := by kernel_rfl
theorem stnd_start (c : tChart.den) (d m : Int) : adv F1 (Z1 []) 3000 (startC F1 84 [tChart.av c, .int .i64 d, .int .i64 m] 6) = (bif ieq (chkS c).snd.snd 0 then (bif ile 0 d then (bif !ile d 40000 then some (.done (.int .i64 (7))) else (bif ieq (chkS c).snd.snd 0 then (bif ile 0 m then (bif !ile m (wr IntKind.i64 (↑c.fst.snd.length - 1)) then some (.done (.int .i64 (4))) else (bif ieq (chkS c).snd.snd 0 then (bif inB m c.fst.snd.length then (bif (c.fst.snd.getD m.toNat tMark.dflt).snd.snd.fst.snd.length.ble 1000 then (bif ieq (colF d 0 (c.fst.snd.getD m.toNat tMark.dflt).snd.snd.fst.snd) 0 then some (.done (.int .i64 (9))) else some (.done (.int .i64 ((chkS c).snd.snd)))) else none) else none) else some (.done (.int .i64 ((chkS c).snd.snd))))) else some (.done (.int .i64 (4)))) else (bif ieq (chkS c).snd.snd 0 then (bif inB m c.fst.snd.length then (bif (c.fst.snd.getD m.toNat tMark.dflt).snd.snd.fst.snd.length.ble 1000 then (bif ieq (colF d 0 (c.fst.snd.getD m.toNat tMark.dflt).snd.snd.fst.snd) 0 then some (.done (.int .i64 (9))) else some (.done (.int .i64 ((chkS c).snd.snd)))) else none) else none) else some (.done (.int .i64 ((chkS c).snd.snd)))))) else some (.done (.int .i64 (7)))) else (bif ieq (chkS c).snd.snd 0 then (bif ile 0 m then (bif !ile m (wr IntKind.i64 (↑c.fst.snd.length - 1)) then some (.done (.int .i64 (4))) else (bif ieq (chkS c).snd.snd 0 then (bif inB m c.fst.snd.length then (bif (c.fst.snd.getD m.toNat tMark.dflt).snd.snd.fst.snd.length.ble 1000 then (bif ieq (colF d 0 (c.fst.snd.getD m.toNat tMark.dflt).snd.snd.fst.snd) 0 then some (.done (.int .i64 (9))) else some (.done (.int .i64 ((chkS c).snd.snd)))) else none) else none) else some (.done (.int .i64 ((chkS c).snd.snd))))) else some (.done (.int .i64 (4)))) else (bif ieq (chkS c).snd.snd 0 then (bif inB m c.fst.snd.length then (bif (c.fst.snd.getD m.toNat tMark.dflt).snd.snd.fst.snd.length.ble 1000 then (bif ieq (colF d 0 (c.fst.snd.getD m.toNat tMark.dflt).snd.snd.fst.snd) 0 then some (.done (.int .i64 (9))) else some (.done (.int .i64 ((chkS c).snd.snd)))) else none) else none) else some (.done (.int .i64 ((chkS c).snd.snd)))))) := by kernel_rfl
abbrev tLook : Ty := .cons tI (.cons tI (.cons tP (.cons tBox .nil)))
/-! ### What a valid chart is -/
theorem ieq_t {a b : Int} (h : ieq a b = true) : a = b := by rw [ieq_iff] at h; simpa using h
theorem ieq_f {a b : Int} (h : ieq a b = false) : a ≠ b := by rw [ieq_iff] at h; simpa using h
theorem paintsE_len {l : List tP.den} (h : paintsE l = 0) : l.length ≤ 4 := by
  unfold paintsE at h
  cases c1 : ile 1 (l.length : Int) <;> cases c2 : ile (l.length : Int) 4 <;> simp only [c1, c2, Bool.and_true, Bool.and_false, Bool.and_self, cond_true, cond_false] at h <;> first | (exact absurd h (by decide)) | skip
  rw [ile_iff] at c2; simp at c2; omega
noncomputable def goodM (m : tMark.den) : Bool := inF m.2.1 && Nat.ble m.2.2.1.2.length 4
theorem markE_good {mem : List Nat → Bool} {m : tMark.den} (h : markE mem m = 0) : goodM m = true := by
  unfold markE at h
  cases c1 : nameS m.1 <;> simp only [c1, cond_true, cond_false] at h
  · exact absurd h (by decide)
  cases c2 : mem m.1 <;> simp only [c2, cond_true, cond_false] at h
  · cases c3 : inF m.2.1 <;> simp only [c3, cond_true, cond_false] at h
    · exact absurd h (by decide)
    · unfold goodM; rw [c3, Nat.ble_eq_true_of_le (paintsE_len h)]; rfl
  · exact absurd h (by decide)
theorem marksS_good {k : (List Nat → Bool) → Int × Int × Int} : ∀ {l : List tMark.den} {mem : List Nat → Bool} {i : Nat}, (marksS k mem i l).2.2 = 0 → l.all goodM = true ∧ ∃ mem', marksS k mem i l = k mem'
  | [], mem, i, h => ⟨rfl, mem, rfl⟩
  | m :: l, mem, i, h => by
    rw [marksS] at h ⊢
    cases c : ieq (markE mem m) 0 with
    | false => rw [c, cond_false] at h; exact absurd h (ieq_f c)
    | true =>
      rw [c, cond_true] at h
      obtain ⟨h1, mem', h2⟩ := marksS_good h
      refine ⟨?_, mem', by rw [cond_true]; exact h2⟩
      rw [List.all_cons, h1, markE_good (ieq_t c)]; rfl
theorem valid_marks {c : tChart.den} (h : (chkS c).2.2 = 0) : c.1.2.length ≤ 8 ∧ c.1.2.all goodM = true := by
  unfold chkS at h
  cases e : ile (c.1.2.length : Int) 8 <;> rw [e] at h
  · rw [cond_false] at h; exact absurd h (by decide)
  · rw [cond_true] at h
    refine ⟨?_, (marksS_good h).1⟩
    rw [ile_iff] at e; simp at e; omega
noncomputable def mk (c : tChart.den) (m : Int) : tMark.den := c.1.2.getD m.toNat tMark.dflt
theorem mk_good {c : tChart.den} (h : (chkS c).2.2 = 0) {m : Int} (hm : inB m c.1.2.length = true) : inF (mk c m).2.1 = true ∧ (mk c m).2.2.1.2.length ≤ 4 := by
  have h1 := (valid_marks h).2
  rw [inB_iff] at hm
  simp only [decide_eq_true_eq] at hm
  have hlt : m.toNat < c.1.2.length := by omega
  have h2 := List.all_eq_true.1 h1 (mk c m) (by unfold mk; simp [hlt])
  unfold goodM at h2
  rw [Bool.and_eq_true] at h2
  exact ⟨h2.1, Nat.le_of_ble_eq_true h2.2⟩
theorem wr_len {n : Nat} (h : n ≤ 8) : wr .i64 ((n : Int) - 1) = (n : Int) - 1 := wr_in (by omega) (by omega)
theorem inB_of {m : Int} {n : Nat} (h1 : ile 0 m = true) (h2 : ile m ((n : Int) - 1) = true) : inB m n = true := by
  rw [ile_iff] at h1 h2
  rw [inB_iff]
  simp only [decide_eq_true_eq] at h1 h2 ⊢
  omega
/-! ### The error of a chart, a day and a mark -/
noncomputable def datE (c : tChart.den) (d m : Int) : Int := bif ieq (chkS c).2.2 0 then (bif ile 0 d && ile d 40000 then (bif ile 0 m && ile m ((c.1.2.length : Int) - 1) then 0 else 4) else 7) else (chkS c).2.2
theorem ckdy_call (c : tChart.den) (d m : Int) : AnsF F1 77 [tChart.av c, .int .i64 d, .int .i64 m] (.int .i64 (datE c d m)) := by
  refine Ans.call (n := 6) (ext_none (by kernel_rfl)) (hasB_spec (by kernel_rfl)) ?_
  have h := ckdy_start c d m
  unfold datE
  cases c1 : ieq (chkS c).2.2 0 with
  | false =>
    simp only [c1, Bool.not_false, cond_true, cond_false] at h ⊢
    exact .doneI (Z1_ok _) F1sy h rfl
  | true =>
    simp only [wr_len (valid_marks (ieq_t c1)).1] at h
    cases d1 : ile 0 d <;> cases d2 : ile d 40000 <;> cases m1 : ile 0 m <;> cases m2 : ile m ((c.1.2.length : Int) - 1) <;>
      (simp only [c1, d1, d2, m1, m2, Bool.not_false, Bool.not_true, cond_true, cond_false, Bool.and_self, Bool.and_true, Bool.and_false] at h ⊢; exact .doneI (Z1_ok _) F1sy h rfl)
theorem datd_call (c : tChart.den) (d m : Int) : AnsF F1 79 [tChart.av c, .int .i64 d, .int .i64 m] (.int .i64 (datE c d m)) := by
  refine Ans.call (n := 6) (ext_none (by kernel_rfl)) (hasB_spec (by kernel_rfl)) ?_
  have h := datd_start c d m
  unfold datE
  cases c1 : ieq (chkS c).2.2 0 with
  | false =>
    simp only [c1, Bool.not_false, cond_true, cond_false] at h ⊢
    exact .doneI (Z1_ok _) F1sy h rfl
  | true =>
    simp only [wr_len (valid_marks (ieq_t c1)).1, ieq_t c1] at h
    cases d1 : ile 0 d <;> cases d2 : ile d 40000 <;> cases m1 : ile 0 m <;> cases m2 : ile m ((c.1.2.length : Int) - 1) <;>
      (simp only [d1, d2, m1, m2, ieq_self, Bool.not_false, Bool.not_true, cond_true, cond_false, Bool.and_self, Bool.and_true, Bool.and_false] at h ⊢; exact .doneI (Z1_ok _) F1sy h rfl)
noncomputable def stdE (c : tChart.den) (d m : Int) : Int := bif ieq (datE c d m) 0 then (bif ieq (colF d 0 (mk c m).2.2.1.2) 0 then 9 else 0) else datE c d m
theorem ckst_call (c : tChart.den) (d m : Int) : AnsF F1 81 [tChart.av c, .int .i64 d, .int .i64 m] (.int .i64 (stdE c d m)) := by
  refine Ans.call (n := 6) (ext_none (by kernel_rfl)) (hasB_spec (by kernel_rfl)) ?_
  have h := ckst_start c d m
  unfold stdE datE
  cases c1 : ieq (chkS c).2.2 0 with
  | false =>
    simp only [c1, Bool.not_false, cond_true, cond_false] at h ⊢
    exact .doneI (Z1_ok _) F1sy h rfl
  | true =>
    have hv := ieq_t c1
    simp only [wr_len (valid_marks hv).1] at h
    have e4 : ieq 4 0 = false := rfl
    have e7 : ieq 7 0 = false := rfl
    cases d1 : ile 0 d <;> cases d2 : ile d 40000 <;> cases m1 : ile 0 m <;> cases m2 : ile m ((c.1.2.length : Int) - 1) <;>
      try (simp only [c1, d1, d2, m1, m2, e4, e7, Bool.not_false, Bool.not_true, cond_true, cond_false, Bool.and_self, Bool.and_true, Bool.and_false] at h ⊢; exact .doneI (Z1_ok _) F1sy h rfl)
    have hb := inB_of m1 m2
    have hp : ((mk c m).2.2.1.2.length).ble 1000 = true := Nat.ble_eq_true_of_le (by have := (mk_good hv hb).2; omega)
    unfold mk at hp ⊢
    cases e : ieq (colF d 0 (c.1.2.getD m.toNat tMark.dflt).2.2.1.2) 0 <;>
      (simp only [c1, d1, d2, m1, m2, hb, hp, e, ieq_self, Bool.not_false, Bool.not_true, cond_true, cond_false, Bool.and_self] at h ⊢; exact .doneI (Z1_ok _) F1sy h rfl)
theorem stnd_call (c : tChart.den) (d m : Int) : AnsF F1 84 [tChart.av c, .int .i64 d, .int .i64 m] (.int .i64 (stdE c d m)) := by
  refine Ans.call (n := 6) (ext_none (by kernel_rfl)) (hasB_spec (by kernel_rfl)) ?_
  have h := stnd_start c d m
  unfold stdE datE
  cases c1 : ieq (chkS c).2.2 0 with
  | false =>
    simp only [c1, Bool.not_false, cond_true, cond_false] at h ⊢
    exact .doneI (Z1_ok _) F1sy h rfl
  | true =>
    have hv := ieq_t c1
    simp only [wr_len (valid_marks hv).1, hv] at h
    have e4 : ieq 4 0 = false := rfl
    have e7 : ieq 7 0 = false := rfl
    cases d1 : ile 0 d <;> cases d2 : ile d 40000 <;> cases m1 : ile 0 m <;> cases m2 : ile m ((c.1.2.length : Int) - 1) <;>
      try (simp only [d1, d2, m1, m2, e4, e7, ieq_self, Bool.not_false, Bool.not_true, cond_true, cond_false, Bool.and_self, Bool.and_true, Bool.and_false] at h ⊢; exact .doneI (Z1_ok _) F1sy h rfl)
    have hb := inB_of m1 m2
    have hp : ((mk c m).2.2.1.2.length).ble 1000 = true := Nat.ble_eq_true_of_le (by have := (mk_good hv hb).2; omega)
    unfold mk at hp ⊢
    cases e : ieq (colF d 0 (c.1.2.getD m.toNat tMark.dflt).2.2.1.2) 0 <;>
      (simp only [d1, d2, m1, m2, hb, hp, e, ieq_self, Bool.not_false, Bool.not_true, cond_true, cond_false, Bool.and_self] at h ⊢; exact .doneI (Z1_ok _) F1sy h rfl)
/-! ### The second level -/
noncomputable def datX : List AV → Option (Bool × AV) := con3 tChart tI tI (fun _ _ _ => true) (fun c d m => .int .i64 (datE c d m))
noncomputable def stdX : List AV → Option (Bool × AV) := con3 tChart tI tI (fun _ _ _ => true) (fun c d m => .int .i64 (stdE c d m))
noncomputable def LB : List Said := [(77, datX), (79, datX), (81, stdX), (84, stdX), (82, con1 tP (fun v => inW v.1 v.2.1) (fun v => .int .i64 (ptF v.1 v.2.1))),
  (85, con1 tP (fun v => inW v.1 v.2.1 && nz v.1 v.2.1) (fun v => .int .i64 (ptF v.1 v.2.1))), (72, con1 tBox (fun b => bK b.1.1 b.1.2.1 b.2.1.1 b.2.1.2.1) (fun b => .vs tP false (pts b.1.1 b.1.2.1 b.2.1.1 b.2.1.2.1)))]
theorem LB_ok : ∀ e ∈ LB, SaidG Tryz.prog F1.glob e :=
  saids_cons (SaidOK.g f1 xf1 nf1 tabs_ok.mix (fun _ _ h => con3_spec (t := tChart) (u := tI) (w := tI) (fun c d m _ => ckdy_call c d m) h) rfl)
  (saids_cons (SaidOK.g f1 xf1 nf1 tabs_ok.mix (fun _ _ h => con3_spec (t := tChart) (u := tI) (w := tI) (fun c d m _ => datd_call c d m) h) rfl)
  (saids_cons (SaidOK.g f1 xf1 nf1 tabs_ok.mix (fun _ _ h => con3_spec (t := tChart) (u := tI) (w := tI) (fun c d m _ => ckst_call c d m) h) rfl)
  (saids_cons (SaidOK.g f1 xf1 nf1 tabs_ok.mix (fun _ _ h => con3_spec (t := tChart) (u := tI) (w := tI) (fun c d m _ => stnd_call c d m) h) rfl)
  (saids_cons (SaidOK.g f1 xf1 nf1 tabs_ok.mix (fun _ _ h => con1_spec (t := tP) (fun v hv => ptOf_call v hv) h) rfl)
  (saids_cons (SaidOK.g f1 xf1 nf1 tabs_ok.mix (fun _ _ h => con1_spec (t := tP) (fun v hv => towa_call v (Bool.and_eq_true _ _ ▸ hv).1 (Bool.and_eq_true _ _ ▸ hv).2) h) rfl)
  (saids_cons (SaidOK.g f1 xf1 nf1 tabs_ok.mix (fun _ _ h => con1_spec (t := tBox) (fun b hb => movs_call b hb) h) rfl) saids_nil))))))
noncomputable def F2 : Env := F1.say (under (xOf LB))
theorem f2 : EnvOK Tryz.prog F2 := f1.say _
theorem nf2 : NameOK F2 := nf1.say _
theorem xf2 : ExtOK Tryz.prog F2 := xf1.sayL LB_ok
theorem F2sy : F2.sy = true := rfl
noncomputable def Z2 (l : List Nat) : Sy := (Z1 []).on LB l
theorem Z2_ok (l : List Nat) : (Z2 l).ok F2 := Sy.on_ok (Z1_ok _)
end Go.Proofs.YtffnpkbopjjdaaaGreatDoor

/-
  LOOPS, told by their heads.
-/
set_option maxRecDepth 100000
namespace Go.Proofs.YtffnpkbopjjdaaaGreatDoor
open Go Go.Eng
theorem colr_start (c : tChart.den) (d m : Int) : adv F2 (Z2 []) 3000 (startC F2 30 [tChart.av c, .int .i64 d, .int .i64 m] 6) = (bif !ieq (datE c d m) 0 then some (.done (.tup [(.int .i64 (0)), (.int .i64 (datE c d m))])) else (bif inB m c.fst.snd.length then (bif (c.fst.snd.getD m.toNat tMark.dflt).snd.snd.fst.snd.length.ble 1000 then some (.done (.tup [(.int .i64 (colF d 0 (c.fst.snd.getD m.toNat tMark.dflt).snd.snd.fst.snd)), (.int .i64 (0))])) else none) else none)) := by kernel_rfl
theorem rcol_start (c : tChart.den) (d m : Int) : adv F2 (Z2 []) 3000 (startC F2 31 [tChart.av c, .int .i64 d, .int .i64 m] 6) = (bif !ieq (datE c d m) 0 then some (.done (.tup [(.int .i64 (0)), (.int .i64 (datE c d m))])) else (bif inB m c.fst.snd.length then (bif (c.fst.snd.getD m.toNat tMark.dflt).snd.snd.fst.snd.length.ble 1000 then some (.done (.tup [(.int .i64 (colF d 0 (c.fst.snd.getD m.toNat tMark.dflt).snd.snd.fst.snd)), (.int .i64 (0))])) else none) else none)) := by kernel_rfl
theorem seen_start (c : tChart.den) (d m : Int) (v : tP.den) : adv F2 (Z2 []) 3000 (startC F2 32 [tChart.av c, .int .i64 d, .int .i64 m, tP.av v] 6) = (bif !ieq (stdE c d m) 0 then some (.done (.tup [(.int .i64 (0)), (.int .i64 (stdE c d m))])) else (bif !ile (-30000) v.fst then some (.done (.tup [(.int .i64 (0)), (.int .i64 (7))])) else (bif !ile v.fst 30000 then some (.done (.tup [(.int .i64 (0)), (.int .i64 (7))])) else (bif !ile (-30000) v.snd.fst then some (.done (.tup [(.int .i64 (0)), (.int .i64 (7))])) else (bif !ile v.snd.fst 30000 then some (.done (.tup [(.int .i64 (0)), (.int .i64 (7))])) else (bif inB m c.fst.snd.length then (bif ieq (c.fst.snd.getD m.toNat tMark.dflt).snd.fst.fst v.fst && (ieq (c.fst.snd.getD m.toNat tMark.dflt).snd.fst.snd.fst v.snd.fst && true) then some (.done (.tup [(.int .i64 (0)), (.int .i64 (8))])) else (bif inW (wr IntKind.i64 ((c.fst.snd.getD m.toNat tMark.dflt).snd.fst.fst - v.fst)) (wr IntKind.i64 ((c.fst.snd.getD m.toNat tMark.dflt).snd.fst.snd.fst - v.snd.fst)) then some (.done (.tup [(.int .i64 (ptF (wr IntKind.i64 ((c.fst.snd.getD m.toNat tMark.dflt).snd.fst.fst - v.fst)) (wr IntKind.i64 ((c.fst.snd.getD m.toNat tMark.dflt).snd.fst.snd.fst - v.snd.fst)))), (.int .i64 (0))])) else none)) else none)))))) := by kernel_rfl
theorem rsee_start (c : tChart.den) (d m : Int) (v : tP.den) : adv F2 (Z2 []) 3000 (startC F2 33 [tChart.av c, .int .i64 d, .int .i64 m, tP.av v] 6) = (bif ieq (stdE c d m) 0 then (bif ile (wr IntKind.i64 (0 - 30000)) v.fst then (bif ile v.fst 30000 then (bif ile (wr IntKind.i64 (0 - 30000)) v.snd.fst then (bif !ile v.snd.fst 30000 then some (.done (.tup [(.int .i64 (0)), (.int .i64 (7))])) else (bif ieq (stdE c d m) 0 then (bif inB m c.fst.snd.length then (bif ieq (c.fst.snd.getD m.toNat tMark.dflt).snd.fst.fst v.fst && (ieq (c.fst.snd.getD m.toNat tMark.dflt).snd.fst.snd.fst v.snd.fst && true) then some (.done (.tup [(.int .i64 (0)), (.int .i64 (8))])) else (bif !ieq (stdE c d m) 0 then some (.done (.tup [(.int .i64 (0)), (.int .i64 (stdE c d m))])) else (bif inB m c.fst.snd.length then (bif inW (wr IntKind.i64 ((c.fst.snd.getD m.toNat tMark.dflt).snd.fst.fst - v.fst)) (wr IntKind.i64 ((c.fst.snd.getD m.toNat tMark.dflt).snd.fst.snd.fst - v.snd.fst)) && nz (wr IntKind.i64 ((c.fst.snd.getD m.toNat tMark.dflt).snd.fst.fst - v.fst)) (wr IntKind.i64 ((c.fst.snd.getD m.toNat tMark.dflt).snd.fst.snd.fst - v.snd.fst)) then (bif ieq v.fst v.fst then (bif ieq v.snd.fst v.snd.fst then (bif bbeq c.fst.fst c.fst.fst then (bif vsB tMark c.fst.snd tMark c.fst.snd then some (.done (.tup [(.int .i64 (ptF (wr IntKind.i64 ((c.fst.snd.getD m.toNat tMark.dflt).snd.fst.fst - v.fst)) (wr IntKind.i64 ((c.fst.snd.getD m.toNat tMark.dflt).snd.fst.snd.fst - v.snd.fst)))), (.int .i64 (0))])) else none) else none) else none) else none) else none) else none))) else none) else (bif !ieq (stdE c d m) 0 then some (.done (.tup [(.int .i64 (0)), (.int .i64 (stdE c d m))])) else (bif inB m c.fst.snd.length then (bif inW (wr IntKind.i64 ((c.fst.snd.getD m.toNat tMark.dflt).snd.fst.fst - v.fst)) (wr IntKind.i64 ((c.fst.snd.getD m.toNat tMark.dflt).snd.fst.snd.fst - v.snd.fst)) && nz (wr IntKind.i64 ((c.fst.snd.getD m.toNat tMark.dflt).snd.fst.fst - v.fst)) (wr IntKind.i64 ((c.fst.snd.getD m.toNat tMark.dflt).snd.fst.snd.fst - v.snd.fst)) then (bif ieq v.fst v.fst then (bif ieq v.snd.fst v.snd.fst then (bif bbeq c.fst.fst c.fst.fst then (bif vsB tMark c.fst.snd tMark c.fst.snd then some (.done (.tup [(.int .i64 (ptF (wr IntKind.i64 ((c.fst.snd.getD m.toNat tMark.dflt).snd.fst.fst - v.fst)) (wr IntKind.i64 ((c.fst.snd.getD m.toNat tMark.dflt).snd.fst.snd.fst - v.snd.fst)))), (.int .i64 (0))])) else none) else none) else none) else none) else none) else none)))) else some (.done (.tup [(.int .i64 (0)), (.int .i64 (7))]))) else some (.done (.tup [(.int .i64 (0)), (.int .i64 (7))]))) else some (.done (.tup [(.int .i64 (0)), (.int .i64 (7))]))) else (bif ieq (stdE c d m) 0 then (bif inB m c.fst.snd.length then (bif ieq (c.fst.snd.getD m.toNat tMark.dflt).snd.fst.fst v.fst && (ieq (c.fst.snd.getD m.toNat tMark.dflt).snd.fst.snd.fst v.snd.fst && true) then some (.done (.tup [(.int .i64 (0)), (.int .i64 (8))])) else (bif !ieq (stdE c d m) 0 then some (.done (.tup [(.int .i64 (0)), (.int .i64 (stdE c d m))])) else (bif inB m c.fst.snd.length then (bif inW (wr IntKind.i64 ((c.fst.snd.getD m.toNat tMark.dflt).snd.fst.fst - v.fst)) (wr IntKind.i64 ((c.fst.snd.getD m.toNat tMark.dflt).snd.fst.snd.fst - v.snd.fst)) && nz (wr IntKind.i64 ((c.fst.snd.getD m.toNat tMark.dflt).snd.fst.fst - v.fst)) (wr IntKind.i64 ((c.fst.snd.getD m.toNat tMark.dflt).snd.fst.snd.fst - v.snd.fst)) then (bif ieq v.fst v.fst then (bif ieq v.snd.fst v.snd.fst then (bif bbeq c.fst.fst c.fst.fst then (bif vsB tMark c.fst.snd tMark c.fst.snd then some (.done (.tup [(.int .i64 (ptF (wr IntKind.i64 ((c.fst.snd.getD m.toNat tMark.dflt).snd.fst.fst - v.fst)) (wr IntKind.i64 ((c.fst.snd.getD m.toNat tMark.dflt).snd.fst.snd.fst - v.snd.fst)))), (.int .i64 (0))])) else none) else none) else none) else none) else none) else none))) else none) else (bif !ieq (stdE c d m) 0 then some (.done (.tup [(.int .i64 (0)), (.int .i64 (stdE c d m))])) else (bif inB m c.fst.snd.length then (bif inW (wr IntKind.i64 ((c.fst.snd.getD m.toNat tMark.dflt).snd.fst.fst - v.fst)) (wr IntKind.i64 ((c.fst.snd.getD m.toNat tMark.dflt).snd.fst.snd.fst - v.snd.fst)) && nz (wr IntKind.i64 ((c.fst.snd.getD m.toNat tMark.dflt).snd.fst.fst - v.fst)) (wr IntKind.i64 ((c.fst.snd.getD m.toNat tMark.dflt).snd.fst.snd.fst - v.snd.fst)) then (bif ieq v.fst v.fst then (bif ieq v.snd.fst v.snd.fst then (bif bbeq c.fst.fst c.fst.fst then (bif vsB tMark c.fst.snd tMark c.fst.snd then some (.done (.tup [(.int .i64 (ptF (wr IntKind.i64 ((c.fst.snd.getD m.toNat tMark.dflt).snd.fst.fst - v.fst)) (wr IntKind.i64 ((c.fst.snd.getD m.toNat tMark.dflt).snd.fst.snd.fst - v.snd.fst)))), (.int .i64 (0))])) else none) else none) else none) else none) else none) else none)))) := by kernel_rfl
/-! ### Colour and Seen -/
noncomputable def tup2 (r : Int × Int) : AV := .tup [.int .i64 r.1, .int .i64 r.2]
theorem done2 {E : Env} {S : Sy} (hS : S.ok E) (hsy : E.sy = true) {n : Nat} {c : Cfg} {a b : Int} {r : Int × Int} (h : adv E S n c = some (.done (.tup [.int .i64 a, .int .i64 b]))) (e : (a, b) = r) : Ans E c (tup2 r) :=
  e ▸ Ans.done hS hsy h rfl
theorem datE_ok {c : tChart.den} {d m : Int} (h : datE c d m = 0) : (chkS c).2.2 = 0 ∧ inB m c.1.2.length = true := by
  unfold datE at h
  cases c1 : ieq (chkS c).2.2 0 with
  | false => rw [c1, cond_false] at h; exact absurd h (ieq_f c1)
  | true =>
    rw [c1, cond_true] at h
    cases d1 : ile 0 d <;> cases d2 : ile d 40000 <;> cases m1 : ile 0 m <;> cases m2 : ile m ((c.1.2.length : Int) - 1) <;>
      simp only [d1, d2, m1, m2, Bool.and_self, Bool.and_true, Bool.and_false, cond_true, cond_false] at h <;>
      first
        | (exact absurd h (by decide))
        | exact ⟨ieq_t c1, inB_of m1 m2⟩
theorem stdE_ok {c : tChart.den} {d m : Int} (h : stdE c d m = 0) : datE c d m = 0 := by
  unfold stdE at h
  cases c1 : ieq (datE c d m) 0 with
  | false => rw [c1, cond_false] at h; exact h
  | true => exact ieq_t c1
noncomputable def colS (c : tChart.den) (d m : Int) : Int × Int := bif ieq (datE c d m) 0 then (colF d 0 (mk c m).2.2.1.2, 0) else (0, datE c d m)
theorem colr_call (c : tChart.den) (d m : Int) : AnsF F2 30 [tChart.av c, .int .i64 d, .int .i64 m] (tup2 (colS c d m)) := by
  refine Ans.call (n := 6) (ext_none (by kernel_rfl)) (hasB_spec (by kernel_rfl)) ?_
  have h := colr_start c d m
  unfold colS
  cases c1 : ieq (datE c d m) 0 with
  | false =>
    simp only [c1, Bool.not_false, cond_true, cond_false] at h ⊢
    exact done2 (Z2_ok _) F2sy h rfl
  | true =>
    have hv := datE_ok (ieq_t c1)
    have hp : ((mk c m).2.2.1.2.length).ble 1000 = true := Nat.ble_eq_true_of_le (by have := (mk_good hv.1 hv.2).2; omega)
    unfold mk at hp ⊢
    simp only [c1, hv.2, hp, Bool.not_true, cond_true, cond_false] at h ⊢
    exact done2 (Z2_ok _) F2sy h rfl
theorem rcol_call (c : tChart.den) (d m : Int) : AnsF F2 31 [tChart.av c, .int .i64 d, .int .i64 m] (tup2 (colS c d m)) := by
  refine Ans.call (n := 6) (ext_none (by kernel_rfl)) (hasB_spec (by kernel_rfl)) ?_
  have h := rcol_start c d m
  unfold colS
  cases c1 : ieq (datE c d m) 0 with
  | false =>
    simp only [c1, Bool.not_false, cond_true, cond_false] at h ⊢
    exact done2 (Z2_ok _) F2sy h rfl
  | true =>
    have hv := datE_ok (ieq_t c1)
    have hp : ((mk c m).2.2.1.2.length).ble 1000 = true := Nat.ble_eq_true_of_le (by have := (mk_good hv.1 hv.2).2; omega)
    unfold mk at hp ⊢
    simp only [c1, hv.2, hp, Bool.not_true, cond_true, cond_false] at h ⊢
    exact done2 (Z2_ok _) F2sy h rfl
noncomputable def inR (x y : Int) : Bool := ile (-30000) x && ile x 30000 && ile (-30000) y && ile y 30000
theorem inR_iff {x y : Int} : inR x y = true ↔ ((-30000 ≤ x ∧ x ≤ 30000) ∧ -30000 ≤ y) ∧ y ≤ 30000 := by
  simp only [inR, Bool.and_eq_true, ile_iff, decide_eq_true_eq]
/-- From x, y a mark at a, b is seen so. -/
noncomputable def seeF (a b x y : Int) : Int × Int := bif ieq a x && ieq b y then (0, 8) else (ptF (a - x) (b - y), 0)
noncomputable def seeS (c : tChart.den) (d m x y : Int) : Int × Int := bif ieq (stdE c d m) 0 then (bif inR x y then seeF (mk c m).2.1.1 (mk c m).2.1.2.1 x y else (0, 7)) else (0, stdE c d m)
theorem wm30 : wr IntKind.i64 (0 - 30000) = -30000 := rfl
theorem dif_wr {a b x y : Int} (h : inR a b = true) (k : inR x y = true) : wr .i64 (a - x) = a - x ∧ wr .i64 (b - y) = b - y ∧ inW (a - x) (b - y) = true := by
  rw [inR_iff] at h k
  refine ⟨wr_in (by omega) (by omega), wr_in (by omega) (by omega), ?_⟩
  rw [inW_iff]; omega
theorem nz_of {a b x y : Int} (h : (ieq a x && ieq b y) = false) : nz (a - x) (b - y) = true := by
  unfold nz
  cases e : (ieq (a - x) 0 && ieq (b - y) 0) with
  | false => rfl
  | true =>
    rw [Bool.and_eq_true] at e
    have e1 := ieq_t e.1
    have e2 := ieq_t e.2
    have : a = x := by omega
    have : b = y := by omega
    subst_vars
    rw [ieq_self, ieq_self] at h; cases h
theorem mk_in {c : tChart.den} (h : (chkS c).2.2 = 0) {m : Int} (hm : inB m c.1.2.length = true) : inR (mk c m).2.1.1 (mk c m).2.1.2.1 = true := (mk_good h hm).1
theorem seen_call (c : tChart.den) (d m : Int) (v : tP.den) : AnsF F2 32 [tChart.av c, .int .i64 d, .int .i64 m, tP.av v] (tup2 (seeS c d m v.1 v.2.1)) := by
  refine Ans.call (n := 6) (ext_none (by kernel_rfl)) (hasB_spec (by kernel_rfl)) ?_
  have h := seen_start c d m v
  unfold seeS
  cases c1 : ieq (stdE c d m) 0 with
  | false =>
    simp only [c1, Bool.not_false, cond_true, cond_false] at h ⊢
    exact done2 (Z2_ok _) F2sy h rfl
  | true =>
    have hv := datE_ok (stdE_ok (ieq_t c1))
    have hm := mk_in hv.1 hv.2
    obtain ⟨x, hx⟩ : ∃ x : Int, v.1 = x := ⟨_, rfl⟩
    obtain ⟨y, hy⟩ : ∃ y : Int, v.2.1 = y := ⟨_, rfl⟩
    unfold mk at hm ⊢
    obtain ⟨a, ha⟩ : ∃ x : Int, (c.1.2.getD m.toNat tMark.dflt).2.1.1 = x := ⟨_, rfl⟩
    obtain ⟨b, hb⟩ : ∃ x : Int, (c.1.2.getD m.toNat tMark.dflt).2.1.2.1 = x := ⟨_, rfl⟩
    simp only [c1, hv.2, hx, hy, ha, hb, Bool.not_true, cond_true, cond_false] at h hm ⊢
    unfold inR at ⊢
    cases d1 : ile (-30000) x <;> cases d2 : ile x 30000 <;> cases d3 : ile (-30000) y <;> cases d4 : ile y 30000 <;>
      try (simp only [d1, d2, d3, d4, Bool.not_false, Bool.not_true, Bool.and_self, Bool.and_true, Bool.and_false, Bool.false_and, cond_true, cond_false] at h ⊢; exact done2 (Z2_ok _) F2sy h rfl)
    have hxy : inR x y = true := by unfold inR; rw [d1, d2, d3, d4]; rfl
    obtain ⟨w1, w2, w3⟩ := dif_wr hm hxy
    simp only [d1, d2, d3, d4, w1, w2, w3, Bool.not_true, Bool.and_true, cond_true, cond_false] at h ⊢
    unfold seeF
    cases e : (ieq a x && ieq b y) <;> (simp only [e, cond_true, cond_false] at h ⊢; exact done2 (Z2_ok _) F2sy h rfl)
theorem rsee_call (c : tChart.den) (d m : Int) (v : tP.den) : AnsF F2 33 [tChart.av c, .int .i64 d, .int .i64 m, tP.av v] (tup2 (seeS c d m v.1 v.2.1)) := by
  refine Ans.call (n := 6) (ext_none (by kernel_rfl)) (hasB_spec (by kernel_rfl)) ?_
  have h := rsee_start c d m v
  unfold seeS
  cases c1 : ieq (stdE c d m) 0 with
  | false =>
    simp only [c1, Bool.not_false, cond_true, cond_false] at h ⊢
    exact done2 (Z2_ok _) F2sy h rfl
  | true =>
    have hv := datE_ok (stdE_ok (ieq_t c1))
    have hm := mk_in hv.1 hv.2
    obtain ⟨x, hx⟩ : ∃ x : Int, v.1 = x := ⟨_, rfl⟩
    obtain ⟨y, hy⟩ : ∃ y : Int, v.2.1 = y := ⟨_, rfl⟩
    unfold mk at hm ⊢
    obtain ⟨a, ha⟩ : ∃ x : Int, (c.1.2.getD m.toNat tMark.dflt).2.1.1 = x := ⟨_, rfl⟩
    obtain ⟨b, hb⟩ : ∃ x : Int, (c.1.2.getD m.toNat tMark.dflt).2.1.2.1 = x := ⟨_, rfl⟩
    simp only [c1, hv.2, hx, hy, ha, hb, wm30, ieq_self, bbeq_self, vsB_self, Bool.not_true, cond_true, cond_false] at h hm ⊢
    unfold inR at ⊢
    cases d1 : ile (-30000) x <;> cases d2 : ile x 30000 <;> cases d3 : ile (-30000) y <;> cases d4 : ile y 30000 <;>
      try (simp only [d1, d2, d3, d4, Bool.not_false, Bool.not_true, Bool.and_self, Bool.and_true, Bool.and_false, Bool.false_and, cond_true, cond_false] at h ⊢; exact done2 (Z2_ok _) F2sy h rfl)
    have hxy : inR x y = true := by unfold inR; rw [d1, d2, d3, d4]; rfl
    obtain ⟨w1, w2, w3⟩ := dif_wr hm hxy
    simp only [d1, d2, d3, d4, w1, w2, w3, Bool.not_true, Bool.and_true, Bool.true_and, cond_true, cond_false] at h ⊢
    unfold seeF
    cases e : (ieq a x && ieq b y) with
    | true => simp only [e, cond_true] at h ⊢; exact done2 (Z2_ok _) F2sy h rfl
    | false => simp only [e, nz_of e, cond_true, cond_false] at h ⊢; exact done2 (Z2_ok _) F2sy h rfl
end Go.Proofs.YtffnpkbopjjdaaaGreatDoor

/-
  LOOPS, told by their heads.
-/
set_option maxRecDepth 100000
namespace Go.Proofs.YtffnpkbopjjdaaaGreatDoor
open Go Go.Eng
noncomputable def pntsI0 (c : tChart.den) (d m : Int) (b : tBox.den) (x3 : Int) (x30 : List AV) (x89 : Nat) : Cfg := ⟨.ex (pcOf F2 111 [0, 0, 1]) ⟨(tmOf 33 [(0, (.yld 11)), (1, (.ptr 10 0)), (5, (.ptr 10 0)), (6, (.agg [(.int .i64 (b.fst.fst)), (.int .i64 (b.fst.snd.fst))])), (7, (.int .i64 (wr IntKind.i64 (wr IntKind.i64 (b.fst.snd.fst - b.fst.fst) + 1)))), (8, (.int .i64 x3))]), (hpOf 13 [(0, (.cells false [(.vs tMark (c.fst.fst) (c.fst.snd)), (.vs tSand (c.snd.fst.fst) (c.snd.fst.snd))])), (1, (.cells false [(.int .i64 (b.fst.fst)), (.int .i64 (b.fst.snd.fst)), (.int .i64 (b.snd.fst.fst)), (.int .i64 (b.snd.fst.snd.fst))])), (2, (.cells false [(.int .i64 (b.fst.fst)), (.int .i64 (b.fst.snd.fst)), (.int .i64 (b.snd.fst.fst)), (.int .i64 (b.snd.fst.snd.fst))])), (3, (.cells true [(.int .i64 (b.fst.fst)), (.int .i64 (b.fst.snd.fst)), (.int .i64 (b.snd.fst.fst)), (.int .i64 (b.snd.fst.snd.fst))])), (4, (.cells false [(.int .i64 (b.fst.fst)), (.int .i64 (b.fst.snd.fst))])), (5, (.cells false [(.int .i64 (b.fst.fst)), (.int .i64 (bif ile (bif ile b.fst.snd.fst b.fst.fst then b.fst.fst else b.fst.snd.fst) (wr IntKind.i64 (b.fst.fst + 40)) then bif ile b.fst.snd.fst b.fst.fst then b.fst.fst else b.fst.snd.fst else wr IntKind.i64 (b.fst.fst + 40)))])), (6, (.cells false [(.int .i64 (b.snd.fst.fst)), (.int .i64 (b.snd.fst.snd.fst))])), (7, (.cells false [(.int .i64 (b.snd.fst.fst)), (.int .i64 (bif ile (bif ile b.snd.fst.snd.fst b.snd.fst.fst then b.snd.fst.fst else b.snd.fst.snd.fst) (wr IntKind.i64 (b.snd.fst.fst + 40)) then bif ile b.snd.fst.snd.fst b.snd.fst.fst then b.snd.fst.fst else b.snd.fst.snd.fst else wr IntKind.i64 (b.snd.fst.fst + 40)))])), (8, (.cells false [(.int .i64 ((c.fst.snd.getD m.toNat tMark.dflt).snd.fst.fst)), (.int .i64 ((c.fst.snd.getD m.toNat tMark.dflt).snd.fst.snd.fst))])), (9, (.cells false x30)), (10, (.cells false [(.int .i64 (b.fst.fst)), (.int .i64 (b.fst.snd.fst)), (.int .i64 (b.snd.fst.fst)), (.int .i64 (b.snd.fst.snd.fst))])), (12, (.cells false [(.int .i64 (b.fst.fst)), (.int .i64 (b.fst.snd.fst))]))]), [], [⟨false, .normal⟩], 33, false⟩, ⟨7, [⟨11, 59, 8, (tmOf 59 [(0, (.agg [(.vs tMark (c.fst.fst) (c.fst.snd)), (.vs tSand (c.snd.fst.fst) (c.snd.fst.snd))])), (1, (.int .i64 (d))), (2, (.int .i64 (m))), (3, (.agg [(.int .i64 (b.fst.fst)), (.int .i64 (b.fst.snd.fst)), (.int .i64 (b.snd.fst.fst)), (.int .i64 (b.snd.fst.snd.fst))])), (4, (.ptr 0 0)), (7, (.ptr 1 0)), (8, .nils), (9, (.int .i64 (0))), (10, (.int .i64 (stdE c d m))), (11, (.int .i64 (0))), (12, (.ptr 8 0)), (13, (.ptr 9 0)), (18, (.agg [(.vs tMark (c.fst.fst) (c.fst.snd)), (.vs tSand (c.snd.fst.fst) (c.snd.fst.snd))])), (19, (.int .i64 (d))), (20, (.int .i64 (m))), (21, (.int .i64 (stdE c d m))), (22, (.int .i64 (stdE c d m))), (23, (.bool (false))), (25, (.agg [(.int .i64 (b.fst.fst)), (.int .i64 (b.fst.snd.fst)), (.int .i64 (b.snd.fst.fst)), (.int .i64 (b.snd.fst.snd.fst))])), (26, (.int .i64 (0))), (27, (.int .i64 (0))), (28, (.bool (false))), (30, (.ptr 0 0)), (31, (.vs tMark (c.fst.fst) (c.fst.snd))), (32, (.int .i64 (m))), (33, (.cp [(.str ((c.fst.snd.getD m.toNat tMark.dflt).fst)), (.int .i64 ((c.fst.snd.getD m.toNat tMark.dflt).snd.fst.fst)), (.int .i64 ((c.fst.snd.getD m.toNat tMark.dflt).snd.fst.snd.fst)), (.vs tP ((c.fst.snd.getD m.toNat tMark.dflt).snd.snd.fst.fst) ((c.fst.snd.getD m.toNat tMark.dflt).snd.snd.fst.snd))] 0)), (34, (.cp [(.str ((c.fst.snd.getD m.toNat tMark.dflt).fst)), (.int .i64 ((c.fst.snd.getD m.toNat tMark.dflt).snd.fst.fst)), (.int .i64 ((c.fst.snd.getD m.toNat tMark.dflt).snd.fst.snd.fst)), (.vs tP ((c.fst.snd.getD m.toNat tMark.dflt).snd.snd.fst.fst) ((c.fst.snd.getD m.toNat tMark.dflt).snd.snd.fst.snd))] 1)), (35, (.agg [(.int .i64 ((c.fst.snd.getD m.toNat tMark.dflt).snd.fst.fst)), (.int .i64 ((c.fst.snd.getD m.toNat tMark.dflt).snd.fst.snd.fst))])), (36, (.agg [(.int .i64 (b.fst.fst)), (.int .i64 (b.fst.snd.fst)), (.int .i64 (b.snd.fst.fst)), (.int .i64 (b.snd.fst.snd.fst))])), (37, (.fn 111 [] [(.ptr 10 0)]))]), #[38], (pcOf F2 34 [0, 0, 1, 0, 1, 1, 1, 1, 1]), (pcOf F2 34 [1, 0, 1, 0, 1, 1, 1, 1, 1])⟩]⟩, [(.lop (pcOf F2 111 [0, 0, 1]) 13 (tmOf 33 [(0, (.yld 11)), (1, (.ptr 10 0)), (5, (.ptr 10 0)), (6, (.agg [(.int .i64 (b.fst.fst)), (.int .i64 (b.fst.snd.fst))])), (7, (.int .i64 (wr IntKind.i64 (wr IntKind.i64 (b.fst.snd.fst - b.fst.fst) + 1)))), (8, (.int .i64 (0)))]) x89), (.blk 0), (.cal [] (.rng (tmOf 59 [(0, (.agg [(.vs tMark (c.fst.fst) (c.fst.snd)), (.vs tSand (c.snd.fst.fst) (c.snd.fst.snd))])), (1, (.int .i64 (d))), (2, (.int .i64 (m))), (3, (.agg [(.int .i64 (b.fst.fst)), (.int .i64 (b.fst.snd.fst)), (.int .i64 (b.snd.fst.fst)), (.int .i64 (b.snd.fst.snd.fst))])), (4, (.ptr 0 0)), (7, (.ptr 1 0)), (8, .nils), (9, (.int .i64 (0))), (10, (.int .i64 (stdE c d m))), (11, (.int .i64 (0))), (12, (.ptr 8 0)), (13, (.ptr 9 0)), (18, (.agg [(.vs tMark (c.fst.fst) (c.fst.snd)), (.vs tSand (c.snd.fst.fst) (c.snd.fst.snd))])), (19, (.int .i64 (d))), (20, (.int .i64 (m))), (21, (.int .i64 (stdE c d m))), (22, (.int .i64 (stdE c d m))), (23, (.bool (false))), (25, (.agg [(.int .i64 (b.fst.fst)), (.int .i64 (b.fst.snd.fst)), (.int .i64 (b.snd.fst.fst)), (.int .i64 (b.snd.fst.snd.fst))])), (26, (.int .i64 (0))), (27, (.int .i64 (0))), (28, (.bool (false))), (30, (.ptr 0 0)), (31, (.vs tMark (c.fst.fst) (c.fst.snd))), (32, (.int .i64 (m))), (33, (.cp [(.str ((c.fst.snd.getD m.toNat tMark.dflt).fst)), (.int .i64 ((c.fst.snd.getD m.toNat tMark.dflt).snd.fst.fst)), (.int .i64 ((c.fst.snd.getD m.toNat tMark.dflt).snd.fst.snd.fst)), (.vs tP ((c.fst.snd.getD m.toNat tMark.dflt).snd.snd.fst.fst) ((c.fst.snd.getD m.toNat tMark.dflt).snd.snd.fst.snd))] 0)), (34, (.cp [(.str ((c.fst.snd.getD m.toNat tMark.dflt).fst)), (.int .i64 ((c.fst.snd.getD m.toNat tMark.dflt).snd.fst.fst)), (.int .i64 ((c.fst.snd.getD m.toNat tMark.dflt).snd.fst.snd.fst)), (.vs tP ((c.fst.snd.getD m.toNat tMark.dflt).snd.snd.fst.fst) ((c.fst.snd.getD m.toNat tMark.dflt).snd.snd.fst.snd))] 1)), (35, (.agg [(.int .i64 ((c.fst.snd.getD m.toNat tMark.dflt).snd.fst.fst)), (.int .i64 ((c.fst.snd.getD m.toNat tMark.dflt).snd.fst.snd.fst))])), (36, (.agg [(.int .i64 (b.fst.fst)), (.int .i64 (b.fst.snd.fst)), (.int .i64 (b.snd.fst.fst)), (.int .i64 (b.snd.fst.snd.fst))])), (37, (.fn 111 [] [(.ptr 10 0)]))]) [] 59 false ⟨8, []⟩)), (.blk 0), (.seq (pcOf F2 34 [1, 1, 1, 1, 1, 1])), (.cal [(.tmp 8), (.tmp 9)] .top)]⟩
noncomputable def pntsI2 (c : tChart.den) (d m : Int) (b : tBox.den) (x0 : Int) (x10 : Int) (x37 : List AV) (x105 : Nat) (x110 : Nat) : Cfg := ⟨.ex (pcOf F2 111 [0, 0, 1, 1, 0, 0, 1, 1, 0, 0, 1]) ⟨(tmOf 33 [(0, (.yld 11)), (1, (.ptr 10 0)), (3, (.int .i64 x0)), (5, (.ptr 10 0)), (6, (.agg [(.int .i64 (b.fst.fst)), (.int .i64 (b.fst.snd.fst))])), (7, (.int .i64 (wr IntKind.i64 (wr IntKind.i64 (b.fst.snd.fst - b.fst.fst) + 1)))), (8, (.int .i64 x0)), (9, (.bool (true))), (10, (.int .i64 x0)), (11, (.ptr 10 2)), (12, (.agg [(.int .i64 (b.snd.fst.fst)), (.int .i64 (b.snd.fst.snd.fst))])), (13, (.int .i64 (wr IntKind.i64 (wr IntKind.i64 (b.snd.fst.snd.fst - b.snd.fst.fst) + 1)))), (14, (.int .i64 x10))]), (hpOf 14 [(0, (.cells false [(.vs tMark (c.fst.fst) (c.fst.snd)), (.vs tSand (c.snd.fst.fst) (c.snd.fst.snd))])), (1, (.cells false [(.int .i64 (b.fst.fst)), (.int .i64 (b.fst.snd.fst)), (.int .i64 (b.snd.fst.fst)), (.int .i64 (b.snd.fst.snd.fst))])), (2, (.cells false [(.int .i64 (b.fst.fst)), (.int .i64 (b.fst.snd.fst)), (.int .i64 (b.snd.fst.fst)), (.int .i64 (b.snd.fst.snd.fst))])), (3, (.cells true [(.int .i64 (b.fst.fst)), (.int .i64 (b.fst.snd.fst)), (.int .i64 (b.snd.fst.fst)), (.int .i64 (b.snd.fst.snd.fst))])), (4, (.cells false [(.int .i64 (b.fst.fst)), (.int .i64 (b.fst.snd.fst))])), (5, (.cells false [(.int .i64 (b.fst.fst)), (.int .i64 (bif ile (bif ile b.fst.snd.fst b.fst.fst then b.fst.fst else b.fst.snd.fst) (wr IntKind.i64 (b.fst.fst + 40)) then bif ile b.fst.snd.fst b.fst.fst then b.fst.fst else b.fst.snd.fst else wr IntKind.i64 (b.fst.fst + 40)))])), (6, (.cells false [(.int .i64 (b.snd.fst.fst)), (.int .i64 (b.snd.fst.snd.fst))])), (7, (.cells false [(.int .i64 (b.snd.fst.fst)), (.int .i64 (bif ile (bif ile b.snd.fst.snd.fst b.snd.fst.fst then b.snd.fst.fst else b.snd.fst.snd.fst) (wr IntKind.i64 (b.snd.fst.fst + 40)) then bif ile b.snd.fst.snd.fst b.snd.fst.fst then b.snd.fst.fst else b.snd.fst.snd.fst else wr IntKind.i64 (b.snd.fst.fst + 40)))])), (8, (.cells false [(.int .i64 ((c.fst.snd.getD m.toNat tMark.dflt).snd.fst.fst)), (.int .i64 ((c.fst.snd.getD m.toNat tMark.dflt).snd.fst.snd.fst))])), (9, (.cells false x37)), (10, (.cells false [(.int .i64 (b.fst.fst)), (.int .i64 (b.fst.snd.fst)), (.int .i64 (b.snd.fst.fst)), (.int .i64 (b.snd.fst.snd.fst))])), (12, (.cells false [(.int .i64 (b.fst.fst)), (.int .i64 (b.fst.snd.fst))])), (13, (.cells false [(.int .i64 (b.snd.fst.fst)), (.int .i64 (b.snd.fst.snd.fst))]))]), [], [⟨false, .normal⟩], 33, false⟩, ⟨7, [⟨11, 59, 8, (tmOf 59 [(0, (.agg [(.vs tMark (c.fst.fst) (c.fst.snd)), (.vs tSand (c.snd.fst.fst) (c.snd.fst.snd))])), (1, (.int .i64 (d))), (2, (.int .i64 (m))), (3, (.agg [(.int .i64 (b.fst.fst)), (.int .i64 (b.fst.snd.fst)), (.int .i64 (b.snd.fst.fst)), (.int .i64 (b.snd.fst.snd.fst))])), (4, (.ptr 0 0)), (7, (.ptr 1 0)), (8, .nils), (9, (.int .i64 (0))), (10, (.int .i64 (stdE c d m))), (11, (.int .i64 (0))), (12, (.ptr 8 0)), (13, (.ptr 9 0)), (18, (.agg [(.vs tMark (c.fst.fst) (c.fst.snd)), (.vs tSand (c.snd.fst.fst) (c.snd.fst.snd))])), (19, (.int .i64 (d))), (20, (.int .i64 (m))), (21, (.int .i64 (stdE c d m))), (22, (.int .i64 (stdE c d m))), (23, (.bool (false))), (25, (.agg [(.int .i64 (b.fst.fst)), (.int .i64 (b.fst.snd.fst)), (.int .i64 (b.snd.fst.fst)), (.int .i64 (b.snd.fst.snd.fst))])), (26, (.int .i64 (0))), (27, (.int .i64 (0))), (28, (.bool (false))), (30, (.ptr 0 0)), (31, (.vs tMark (c.fst.fst) (c.fst.snd))), (32, (.int .i64 (m))), (33, (.cp [(.str ((c.fst.snd.getD m.toNat tMark.dflt).fst)), (.int .i64 ((c.fst.snd.getD m.toNat tMark.dflt).snd.fst.fst)), (.int .i64 ((c.fst.snd.getD m.toNat tMark.dflt).snd.fst.snd.fst)), (.vs tP ((c.fst.snd.getD m.toNat tMark.dflt).snd.snd.fst.fst) ((c.fst.snd.getD m.toNat tMark.dflt).snd.snd.fst.snd))] 0)), (34, (.cp [(.str ((c.fst.snd.getD m.toNat tMark.dflt).fst)), (.int .i64 ((c.fst.snd.getD m.toNat tMark.dflt).snd.fst.fst)), (.int .i64 ((c.fst.snd.getD m.toNat tMark.dflt).snd.fst.snd.fst)), (.vs tP ((c.fst.snd.getD m.toNat tMark.dflt).snd.snd.fst.fst) ((c.fst.snd.getD m.toNat tMark.dflt).snd.snd.fst.snd))] 1)), (35, (.agg [(.int .i64 ((c.fst.snd.getD m.toNat tMark.dflt).snd.fst.fst)), (.int .i64 ((c.fst.snd.getD m.toNat tMark.dflt).snd.fst.snd.fst))])), (36, (.agg [(.int .i64 (b.fst.fst)), (.int .i64 (b.fst.snd.fst)), (.int .i64 (b.snd.fst.fst)), (.int .i64 (b.snd.fst.snd.fst))])), (37, (.fn 111 [] [(.ptr 10 0)]))]), #[38], (pcOf F2 34 [0, 0, 1, 0, 1, 1, 1, 1, 1]), (pcOf F2 34 [1, 0, 1, 0, 1, 1, 1, 1, 1])⟩]⟩, [(.lop (pcOf F2 111 [0, 0, 1, 1, 0, 0, 1, 1, 0, 0, 1]) 14 (tmOf 33 [(0, (.yld 11)), (1, (.ptr 10 0)), (3, (.int .i64 x0)), (5, (.ptr 10 0)), (6, (.agg [(.int .i64 (b.fst.fst)), (.int .i64 (b.fst.snd.fst))])), (7, (.int .i64 (wr IntKind.i64 (wr IntKind.i64 (b.fst.snd.fst - b.fst.fst) + 1)))), (8, (.int .i64 x0)), (9, (.bool (true))), (10, (.int .i64 x0)), (11, (.ptr 10 2)), (12, (.agg [(.int .i64 (b.snd.fst.fst)), (.int .i64 (b.snd.fst.snd.fst))])), (13, (.int .i64 (wr IntKind.i64 (wr IntKind.i64 (b.snd.fst.snd.fst - b.snd.fst.fst) + 1)))), (14, (.int .i64 (0)))]) x105), (.blk 2), (.blk 1), (.seq (pcOf F2 111 [1, 1, 1, 0, 0, 1])), (.lop (pcOf F2 111 [0, 0, 1]) 13 (tmOf 33 [(0, (.yld 11)), (1, (.ptr 10 0)), (5, (.ptr 10 0)), (6, (.agg [(.int .i64 (b.fst.fst)), (.int .i64 (b.fst.snd.fst))])), (7, (.int .i64 (wr IntKind.i64 (wr IntKind.i64 (b.fst.snd.fst - b.fst.fst) + 1)))), (8, (.int .i64 (0)))]) x110), (.blk 0), (.cal [] (.rng (tmOf 59 [(0, (.agg [(.vs tMark (c.fst.fst) (c.fst.snd)), (.vs tSand (c.snd.fst.fst) (c.snd.fst.snd))])), (1, (.int .i64 (d))), (2, (.int .i64 (m))), (3, (.agg [(.int .i64 (b.fst.fst)), (.int .i64 (b.fst.snd.fst)), (.int .i64 (b.snd.fst.fst)), (.int .i64 (b.snd.fst.snd.fst))])), (4, (.ptr 0 0)), (7, (.ptr 1 0)), (8, .nils), (9, (.int .i64 (0))), (10, (.int .i64 (stdE c d m))), (11, (.int .i64 (0))), (12, (.ptr 8 0)), (13, (.ptr 9 0)), (18, (.agg [(.vs tMark (c.fst.fst) (c.fst.snd)), (.vs tSand (c.snd.fst.fst) (c.snd.fst.snd))])), (19, (.int .i64 (d))), (20, (.int .i64 (m))), (21, (.int .i64 (stdE c d m))), (22, (.int .i64 (stdE c d m))), (23, (.bool (false))), (25, (.agg [(.int .i64 (b.fst.fst)), (.int .i64 (b.fst.snd.fst)), (.int .i64 (b.snd.fst.fst)), (.int .i64 (b.snd.fst.snd.fst))])), (26, (.int .i64 (0))), (27, (.int .i64 (0))), (28, (.bool (false))), (30, (.ptr 0 0)), (31, (.vs tMark (c.fst.fst) (c.fst.snd))), (32, (.int .i64 (m))), (33, (.cp [(.str ((c.fst.snd.getD m.toNat tMark.dflt).fst)), (.int .i64 ((c.fst.snd.getD m.toNat tMark.dflt).snd.fst.fst)), (.int .i64 ((c.fst.snd.getD m.toNat tMark.dflt).snd.fst.snd.fst)), (.vs tP ((c.fst.snd.getD m.toNat tMark.dflt).snd.snd.fst.fst) ((c.fst.snd.getD m.toNat tMark.dflt).snd.snd.fst.snd))] 0)), (34, (.cp [(.str ((c.fst.snd.getD m.toNat tMark.dflt).fst)), (.int .i64 ((c.fst.snd.getD m.toNat tMark.dflt).snd.fst.fst)), (.int .i64 ((c.fst.snd.getD m.toNat tMark.dflt).snd.fst.snd.fst)), (.vs tP ((c.fst.snd.getD m.toNat tMark.dflt).snd.snd.fst.fst) ((c.fst.snd.getD m.toNat tMark.dflt).snd.snd.fst.snd))] 1)), (35, (.agg [(.int .i64 ((c.fst.snd.getD m.toNat tMark.dflt).snd.fst.fst)), (.int .i64 ((c.fst.snd.getD m.toNat tMark.dflt).snd.fst.snd.fst))])), (36, (.agg [(.int .i64 (b.fst.fst)), (.int .i64 (b.fst.snd.fst)), (.int .i64 (b.snd.fst.fst)), (.int .i64 (b.snd.fst.snd.fst))])), (37, (.fn 111 [] [(.ptr 10 0)]))]) [] 59 false ⟨8, []⟩)), (.blk 0), (.seq (pcOf F2 34 [1, 1, 1, 1, 1, 1])), (.cal [(.tmp 8), (.tmp 9)] .top)]⟩
noncomputable def pntsI4 (c : tChart.den) (d m : Int) (b : tBox.den) (x48 : List AV) (x49 : Int) (x133 : Nat) : Cfg := ⟨.ex (pcOf F2 34 [0, 0, 1, 0, 1, 1, 1, 1, 1, 1, 1]) ⟨(tmOf 59 [(0, (.agg [(.vs tMark (c.fst.fst) (c.fst.snd)), (.vs tSand (c.snd.fst.fst) (c.snd.fst.snd))])), (1, (.int .i64 (d))), (2, (.int .i64 (m))), (3, (.agg [(.int .i64 (b.fst.fst)), (.int .i64 (b.fst.snd.fst)), (.int .i64 (b.snd.fst.fst)), (.int .i64 (b.snd.fst.snd.fst))])), (4, (.ptr 0 0)), (7, (.ptr 1 0)), (8, .nils), (9, (.int .i64 (0))), (10, (.int .i64 (stdE c d m))), (11, (.int .i64 (0))), (12, (.ptr 8 0)), (13, (.ptr 9 0)), (15, .nils), (18, (.agg [(.vs tMark (c.fst.fst) (c.fst.snd)), (.vs tSand (c.snd.fst.fst) (c.snd.fst.snd))])), (19, (.int .i64 (d))), (20, (.int .i64 (m))), (21, (.int .i64 (stdE c d m))), (22, (.int .i64 (stdE c d m))), (23, (.bool (false))), (25, (.agg [(.int .i64 (b.fst.fst)), (.int .i64 (b.fst.snd.fst)), (.int .i64 (b.snd.fst.fst)), (.int .i64 (b.snd.fst.snd.fst))])), (26, (.int .i64 (0))), (27, (.int .i64 (0))), (28, (.bool (false))), (30, (.ptr 0 0)), (31, (.vs tMark (c.fst.fst) (c.fst.snd))), (32, (.int .i64 (m))), (33, (.cp [(.str ((c.fst.snd.getD m.toNat tMark.dflt).fst)), (.int .i64 ((c.fst.snd.getD m.toNat tMark.dflt).snd.fst.fst)), (.int .i64 ((c.fst.snd.getD m.toNat tMark.dflt).snd.fst.snd.fst)), (.vs tP ((c.fst.snd.getD m.toNat tMark.dflt).snd.snd.fst.fst) ((c.fst.snd.getD m.toNat tMark.dflt).snd.snd.fst.snd))] 0)), (34, (.cp [(.str ((c.fst.snd.getD m.toNat tMark.dflt).fst)), (.int .i64 ((c.fst.snd.getD m.toNat tMark.dflt).snd.fst.fst)), (.int .i64 ((c.fst.snd.getD m.toNat tMark.dflt).snd.fst.snd.fst)), (.vs tP ((c.fst.snd.getD m.toNat tMark.dflt).snd.snd.fst.fst) ((c.fst.snd.getD m.toNat tMark.dflt).snd.snd.fst.snd))] 1)), (35, (.agg [(.int .i64 ((c.fst.snd.getD m.toNat tMark.dflt).snd.fst.fst)), (.int .i64 ((c.fst.snd.getD m.toNat tMark.dflt).snd.fst.snd.fst))])), (36, (.agg [(.int .i64 (b.fst.fst)), (.int .i64 (b.fst.snd.fst)), (.int .i64 (b.snd.fst.fst)), (.int .i64 (b.snd.fst.snd.fst))])), (37, (.fn 111 [] [(.ptr 10 0)])), (47, (.agg (asZs x48 (repl 32 [AV.bool false]) 0))), (48, (.int .i64 x49))]), (hpOf 13 [(0, (.cells false [(.vs tMark (c.fst.fst) (c.fst.snd)), (.vs tSand (c.snd.fst.fst) (c.snd.fst.snd))])), (1, (.cells false [(.int .i64 (b.fst.fst)), (.int .i64 (b.fst.snd.fst)), (.int .i64 (b.snd.fst.fst)), (.int .i64 (b.snd.fst.snd.fst))])), (2, (.cells false [(.int .i64 (b.fst.fst)), (.int .i64 (b.fst.snd.fst)), (.int .i64 (b.snd.fst.fst)), (.int .i64 (b.snd.fst.snd.fst))])), (3, (.cells true [(.int .i64 (b.fst.fst)), (.int .i64 (b.fst.snd.fst)), (.int .i64 (b.snd.fst.fst)), (.int .i64 (b.snd.fst.snd.fst))])), (4, (.cells false [(.int .i64 (b.fst.fst)), (.int .i64 (b.fst.snd.fst))])), (5, (.cells false [(.int .i64 (b.fst.fst)), (.int .i64 (bif ile (bif ile b.fst.snd.fst b.fst.fst then b.fst.fst else b.fst.snd.fst) (wr IntKind.i64 (b.fst.fst + 40)) then bif ile b.fst.snd.fst b.fst.fst then b.fst.fst else b.fst.snd.fst else wr IntKind.i64 (b.fst.fst + 40)))])), (6, (.cells false [(.int .i64 (b.snd.fst.fst)), (.int .i64 (b.snd.fst.snd.fst))])), (7, (.cells false [(.int .i64 (b.snd.fst.fst)), (.int .i64 (bif ile (bif ile b.snd.fst.snd.fst b.snd.fst.fst then b.snd.fst.fst else b.snd.fst.snd.fst) (wr IntKind.i64 (b.snd.fst.fst + 40)) then bif ile b.snd.fst.snd.fst b.snd.fst.fst then b.snd.fst.fst else b.snd.fst.snd.fst else wr IntKind.i64 (b.snd.fst.fst + 40)))])), (8, (.cells false [(.int .i64 ((c.fst.snd.getD m.toNat tMark.dflt).snd.fst.fst)), (.int .i64 ((c.fst.snd.getD m.toNat tMark.dflt).snd.fst.snd.fst))])), (9, (.cells false x48)), (10, (.cells false [(.int .i64 (b.fst.fst)), (.int .i64 (b.fst.snd.fst)), (.int .i64 (b.snd.fst.fst)), (.int .i64 (b.snd.fst.snd.fst))])), (12, (.cells false [(.int .i64 (b.fst.fst)), (.int .i64 (b.fst.snd.fst))]))]), [], [], 59, false⟩, ⟨8, []⟩, [(.lop (pcOf F2 34 [0, 0, 1, 0, 1, 1, 1, 1, 1, 1, 1]) 13 (tmOf 59 [(0, (.agg [(.vs tMark (c.fst.fst) (c.fst.snd)), (.vs tSand (c.snd.fst.fst) (c.snd.fst.snd))])), (1, (.int .i64 (d))), (2, (.int .i64 (m))), (3, (.agg [(.int .i64 (b.fst.fst)), (.int .i64 (b.fst.snd.fst)), (.int .i64 (b.snd.fst.fst)), (.int .i64 (b.snd.fst.snd.fst))])), (4, (.ptr 0 0)), (7, (.ptr 1 0)), (8, .nils), (9, (.int .i64 (0))), (10, (.int .i64 (stdE c d m))), (11, (.int .i64 (0))), (12, (.ptr 8 0)), (13, (.ptr 9 0)), (15, .nils), (18, (.agg [(.vs tMark (c.fst.fst) (c.fst.snd)), (.vs tSand (c.snd.fst.fst) (c.snd.fst.snd))])), (19, (.int .i64 (d))), (20, (.int .i64 (m))), (21, (.int .i64 (stdE c d m))), (22, (.int .i64 (stdE c d m))), (23, (.bool (false))), (25, (.agg [(.int .i64 (b.fst.fst)), (.int .i64 (b.fst.snd.fst)), (.int .i64 (b.snd.fst.fst)), (.int .i64 (b.snd.fst.snd.fst))])), (26, (.int .i64 (0))), (27, (.int .i64 (0))), (28, (.bool (false))), (30, (.ptr 0 0)), (31, (.vs tMark (c.fst.fst) (c.fst.snd))), (32, (.int .i64 (m))), (33, (.cp [(.str ((c.fst.snd.getD m.toNat tMark.dflt).fst)), (.int .i64 ((c.fst.snd.getD m.toNat tMark.dflt).snd.fst.fst)), (.int .i64 ((c.fst.snd.getD m.toNat tMark.dflt).snd.fst.snd.fst)), (.vs tP ((c.fst.snd.getD m.toNat tMark.dflt).snd.snd.fst.fst) ((c.fst.snd.getD m.toNat tMark.dflt).snd.snd.fst.snd))] 0)), (34, (.cp [(.str ((c.fst.snd.getD m.toNat tMark.dflt).fst)), (.int .i64 ((c.fst.snd.getD m.toNat tMark.dflt).snd.fst.fst)), (.int .i64 ((c.fst.snd.getD m.toNat tMark.dflt).snd.fst.snd.fst)), (.vs tP ((c.fst.snd.getD m.toNat tMark.dflt).snd.snd.fst.fst) ((c.fst.snd.getD m.toNat tMark.dflt).snd.snd.fst.snd))] 1)), (35, (.agg [(.int .i64 ((c.fst.snd.getD m.toNat tMark.dflt).snd.fst.fst)), (.int .i64 ((c.fst.snd.getD m.toNat tMark.dflt).snd.fst.snd.fst))])), (36, (.agg [(.int .i64 (b.fst.fst)), (.int .i64 (b.fst.snd.fst)), (.int .i64 (b.snd.fst.fst)), (.int .i64 (b.snd.fst.snd.fst))])), (37, (.fn 111 [] [(.ptr 10 0)])), (47, (.agg (asZs x48 (repl 32 [AV.bool false]) 0))), (48, (.int .i64 (0)))]) x133), (.blk 2), (.seq (pcOf F2 34 [1, 1, 1, 1, 1, 1, 1, 1])), (.cal [(.tmp 8), (.tmp 9)] .top)]⟩
noncomputable def pntsI5 (c : tChart.den) (d m : Int) (b : tBox.den) (x13 : Nat) (x50 : List AV) (x51 : Int) (x85 : List AV) (x136 : Nat) : Cfg := ⟨.ex (pcOf F2 34 [0, 0, 1, 0, 1, 1, 1, 1, 1, 1, 1]) ⟨(tmOf 59 [(0, (.agg [(.vs tMark (c.fst.fst) (c.fst.snd)), (.vs tSand (c.snd.fst.fst) (c.snd.fst.snd))])), (1, (.int .i64 (d))), (2, (.int .i64 (m))), (3, (.agg [(.int .i64 (b.fst.fst)), (.int .i64 (b.fst.snd.fst)), (.int .i64 (b.snd.fst.fst)), (.int .i64 (b.snd.fst.snd.fst))])), (4, (.ptr 0 0)), (7, (.ptr 1 0)), (8, .nils), (9, (.int .i64 (0))), (10, (.int .i64 (stdE c d m))), (11, (.int .i64 (0))), (12, (.ptr 8 0)), (13, (.ptr 9 0)), (15, (.sl 13 0 x13 x13 1)), (18, (.agg [(.vs tMark (c.fst.fst) (c.fst.snd)), (.vs tSand (c.snd.fst.fst) (c.snd.fst.snd))])), (19, (.int .i64 (d))), (20, (.int .i64 (m))), (21, (.int .i64 (stdE c d m))), (22, (.int .i64 (stdE c d m))), (23, (.bool (false))), (25, (.agg [(.int .i64 (b.fst.fst)), (.int .i64 (b.fst.snd.fst)), (.int .i64 (b.snd.fst.fst)), (.int .i64 (b.snd.fst.snd.fst))])), (26, (.int .i64 (0))), (27, (.int .i64 (0))), (28, (.bool (false))), (30, (.ptr 0 0)), (31, (.vs tMark (c.fst.fst) (c.fst.snd))), (32, (.int .i64 (m))), (33, (.cp [(.str ((c.fst.snd.getD m.toNat tMark.dflt).fst)), (.int .i64 ((c.fst.snd.getD m.toNat tMark.dflt).snd.fst.fst)), (.int .i64 ((c.fst.snd.getD m.toNat tMark.dflt).snd.fst.snd.fst)), (.vs tP ((c.fst.snd.getD m.toNat tMark.dflt).snd.snd.fst.fst) ((c.fst.snd.getD m.toNat tMark.dflt).snd.snd.fst.snd))] 0)), (34, (.cp [(.str ((c.fst.snd.getD m.toNat tMark.dflt).fst)), (.int .i64 ((c.fst.snd.getD m.toNat tMark.dflt).snd.fst.fst)), (.int .i64 ((c.fst.snd.getD m.toNat tMark.dflt).snd.fst.snd.fst)), (.vs tP ((c.fst.snd.getD m.toNat tMark.dflt).snd.snd.fst.fst) ((c.fst.snd.getD m.toNat tMark.dflt).snd.snd.fst.snd))] 1)), (35, (.agg [(.int .i64 ((c.fst.snd.getD m.toNat tMark.dflt).snd.fst.fst)), (.int .i64 ((c.fst.snd.getD m.toNat tMark.dflt).snd.fst.snd.fst))])), (36, (.agg [(.int .i64 (b.fst.fst)), (.int .i64 (b.fst.snd.fst)), (.int .i64 (b.snd.fst.fst)), (.int .i64 (b.snd.fst.snd.fst))])), (37, (.fn 111 [] [(.ptr 10 0)])), (47, (.agg (asZs x50 (repl 32 [AV.bool false]) 0))), (48, (.int .i64 x51))]), (hpOf 14 [(0, (.cells false [(.vs tMark (c.fst.fst) (c.fst.snd)), (.vs tSand (c.snd.fst.fst) (c.snd.fst.snd))])), (1, (.cells false [(.int .i64 (b.fst.fst)), (.int .i64 (b.fst.snd.fst)), (.int .i64 (b.snd.fst.fst)), (.int .i64 (b.snd.fst.snd.fst))])), (2, (.cells false [(.int .i64 (b.fst.fst)), (.int .i64 (b.fst.snd.fst)), (.int .i64 (b.snd.fst.fst)), (.int .i64 (b.snd.fst.snd.fst))])), (3, (.cells true [(.int .i64 (b.fst.fst)), (.int .i64 (b.fst.snd.fst)), (.int .i64 (b.snd.fst.fst)), (.int .i64 (b.snd.fst.snd.fst))])), (4, (.cells false [(.int .i64 (b.fst.fst)), (.int .i64 (b.fst.snd.fst))])), (5, (.cells false [(.int .i64 (b.fst.fst)), (.int .i64 (bif ile (bif ile b.fst.snd.fst b.fst.fst then b.fst.fst else b.fst.snd.fst) (wr IntKind.i64 (b.fst.fst + 40)) then bif ile b.fst.snd.fst b.fst.fst then b.fst.fst else b.fst.snd.fst else wr IntKind.i64 (b.fst.fst + 40)))])), (6, (.cells false [(.int .i64 (b.snd.fst.fst)), (.int .i64 (b.snd.fst.snd.fst))])), (7, (.cells false [(.int .i64 (b.snd.fst.fst)), (.int .i64 (bif ile (bif ile b.snd.fst.snd.fst b.snd.fst.fst then b.snd.fst.fst else b.snd.fst.snd.fst) (wr IntKind.i64 (b.snd.fst.fst + 40)) then bif ile b.snd.fst.snd.fst b.snd.fst.fst then b.snd.fst.fst else b.snd.fst.snd.fst else wr IntKind.i64 (b.snd.fst.fst + 40)))])), (8, (.cells false [(.int .i64 ((c.fst.snd.getD m.toNat tMark.dflt).snd.fst.fst)), (.int .i64 ((c.fst.snd.getD m.toNat tMark.dflt).snd.fst.snd.fst))])), (9, (.cells false x50)), (10, (.cells false [(.int .i64 (b.fst.fst)), (.int .i64 (b.fst.snd.fst)), (.int .i64 (b.snd.fst.fst)), (.int .i64 (b.snd.fst.snd.fst))])), (12, (.cells false [(.int .i64 (b.fst.fst)), (.int .i64 (b.fst.snd.fst))])), (13, (.cells false x85))]), [], [], 59, false⟩, ⟨8, []⟩, [(.lop (pcOf F2 34 [0, 0, 1, 0, 1, 1, 1, 1, 1, 1, 1]) 13 (tmOf 59 [(0, (.agg [(.vs tMark (c.fst.fst) (c.fst.snd)), (.vs tSand (c.snd.fst.fst) (c.snd.fst.snd))])), (1, (.int .i64 (d))), (2, (.int .i64 (m))), (3, (.agg [(.int .i64 (b.fst.fst)), (.int .i64 (b.fst.snd.fst)), (.int .i64 (b.snd.fst.fst)), (.int .i64 (b.snd.fst.snd.fst))])), (4, (.ptr 0 0)), (7, (.ptr 1 0)), (8, .nils), (9, (.int .i64 (0))), (10, (.int .i64 (stdE c d m))), (11, (.int .i64 (0))), (12, (.ptr 8 0)), (13, (.ptr 9 0)), (15, .nils), (18, (.agg [(.vs tMark (c.fst.fst) (c.fst.snd)), (.vs tSand (c.snd.fst.fst) (c.snd.fst.snd))])), (19, (.int .i64 (d))), (20, (.int .i64 (m))), (21, (.int .i64 (stdE c d m))), (22, (.int .i64 (stdE c d m))), (23, (.bool (false))), (25, (.agg [(.int .i64 (b.fst.fst)), (.int .i64 (b.fst.snd.fst)), (.int .i64 (b.snd.fst.fst)), (.int .i64 (b.snd.fst.snd.fst))])), (26, (.int .i64 (0))), (27, (.int .i64 (0))), (28, (.bool (false))), (30, (.ptr 0 0)), (31, (.vs tMark (c.fst.fst) (c.fst.snd))), (32, (.int .i64 (m))), (33, (.cp [(.str ((c.fst.snd.getD m.toNat tMark.dflt).fst)), (.int .i64 ((c.fst.snd.getD m.toNat tMark.dflt).snd.fst.fst)), (.int .i64 ((c.fst.snd.getD m.toNat tMark.dflt).snd.fst.snd.fst)), (.vs tP ((c.fst.snd.getD m.toNat tMark.dflt).snd.snd.fst.fst) ((c.fst.snd.getD m.toNat tMark.dflt).snd.snd.fst.snd))] 0)), (34, (.cp [(.str ((c.fst.snd.getD m.toNat tMark.dflt).fst)), (.int .i64 ((c.fst.snd.getD m.toNat tMark.dflt).snd.fst.fst)), (.int .i64 ((c.fst.snd.getD m.toNat tMark.dflt).snd.fst.snd.fst)), (.vs tP ((c.fst.snd.getD m.toNat tMark.dflt).snd.snd.fst.fst) ((c.fst.snd.getD m.toNat tMark.dflt).snd.snd.fst.snd))] 1)), (35, (.agg [(.int .i64 ((c.fst.snd.getD m.toNat tMark.dflt).snd.fst.fst)), (.int .i64 ((c.fst.snd.getD m.toNat tMark.dflt).snd.fst.snd.fst))])), (36, (.agg [(.int .i64 (b.fst.fst)), (.int .i64 (b.fst.snd.fst)), (.int .i64 (b.snd.fst.fst)), (.int .i64 (b.snd.fst.snd.fst))])), (37, (.fn 111 [] [(.ptr 10 0)])), (47, (.agg (asZs x50 (repl 32 [AV.bool false]) 0))), (48, (.int .i64 (0)))]) x136), (.blk 2), (.seq (pcOf F2 34 [1, 1, 1, 1, 1, 1, 1, 1])), (.cal [(.tmp 8), (.tmp 9)] .top)]⟩
theorem pnts_start (c : tChart.den) (d m : Int) (b : tBox.den) : adv F2 ((Z2 [34, 111]).flat [9]) 3000 (startC F2 34 [tChart.av c, .int .i64 d, .int .i64 m, tBox.av b] 8) = (bif !ieq (stdE c d m) 0 then some (.done (.tup [.nils, (.int .i64 (stdE c d m))])) else (bif !ile (wr IntKind.i64 (0 - 30000)) b.fst.fst then some (.done (.tup [.nils, (.int .i64 (7))])) else (bif !ile b.fst.fst 30000 then some (.done (.tup [.nils, (.int .i64 (7))])) else (bif !ile (wr IntKind.i64 (0 - 30000)) b.fst.snd.fst then some (.done (.tup [.nils, (.int .i64 (7))])) else (bif !ile b.fst.snd.fst 30000 then some (.done (.tup [.nils, (.int .i64 (7))])) else (bif !ile (wr IntKind.i64 (0 - 30000)) b.snd.fst.fst then some (.done (.tup [.nils, (.int .i64 (7))])) else (bif !ile b.snd.fst.fst 30000 then some (.done (.tup [.nils, (.int .i64 (7))])) else (bif !ile (wr IntKind.i64 (0 - 30000)) b.snd.fst.snd.fst then some (.done (.tup [.nils, (.int .i64 (7))])) else (bif !ile b.snd.fst.snd.fst 30000 then some (.done (.tup [.nils, (.int .i64 (7))])) else (bif ieq b.snd.fst.fst b.snd.fst.fst then (bif ieq b.snd.fst.snd.fst b.snd.fst.snd.fst then (bif ieq b.snd.fst.fst b.snd.fst.fst then (bif ieq b.snd.fst.snd.fst b.snd.fst.snd.fst then (bif ieq b.fst.fst b.fst.fst then (bif ieq b.fst.snd.fst b.fst.snd.fst then (bif ieq b.fst.fst b.fst.fst then (bif ieq b.fst.snd.fst b.fst.snd.fst then (bif ieq b.snd.fst.fst b.snd.fst.fst then (bif ieq b.snd.fst.snd.fst b.snd.fst.snd.fst then (bif ieq b.fst.fst b.fst.fst then (bif ieq b.fst.snd.fst b.fst.snd.fst then (bif ieq b.snd.fst.fst b.snd.fst.fst then (bif ieq b.snd.fst.snd.fst b.snd.fst.snd.fst then (bif ieq b.fst.fst b.fst.fst then (bif ieq b.fst.snd.fst b.fst.snd.fst then (bif ieq b.snd.fst.fst b.snd.fst.fst then (bif ieq b.snd.fst.snd.fst b.snd.fst.snd.fst then (bif !(ieq b.fst.fst b.fst.fst && (ieq b.fst.snd.fst (bif ile (bif ile b.fst.snd.fst b.fst.fst then b.fst.fst else b.fst.snd.fst) (wr IntKind.i64 (b.fst.fst + 40)) then bif ile b.fst.snd.fst b.fst.fst then b.fst.fst else b.fst.snd.fst else wr IntKind.i64 (b.fst.fst + 40)) && true) && (ieq b.snd.fst.fst b.snd.fst.fst && (ieq b.snd.fst.snd.fst (bif ile (bif ile b.snd.fst.snd.fst b.snd.fst.fst then b.snd.fst.fst else b.snd.fst.snd.fst) (wr IntKind.i64 (b.snd.fst.fst + 40)) then bif ile b.snd.fst.snd.fst b.snd.fst.fst then b.snd.fst.fst else b.snd.fst.snd.fst else wr IntKind.i64 (b.snd.fst.fst + 40)) && true) && true)) then some (.done (.tup [.nils, (.int .i64 (2))])) else (bif inB m c.fst.snd.length then some (.stop (pntsI0 c d m b (0) (repl 32 [AV.bool false]) (1048575))) else none)) else none) else none) else none) else none) else none) else none) else none) else none) else none) else none) else none) else none) else none) else none) else none) else none) else none) else none)))))))))) := by kernel_rfl
theorem pnts_step0 (c : tChart.den) (d m : Int) (b : tBox.den) (x3 : Int) (x30 : List AV) (x89 : Nat) : adv F2 ((Z2 [34, 111]).flat [9]) 3000 (pntsI0 c d m b x3 x30 (x89 + 1)) = (bif !ile (wr IntKind.i64 (wr IntKind.i64 (b.fst.snd.fst - b.fst.fst) + 1)) x3 then some (.stop (pntsI2 c d m b (x3) (0) (x30) (1048575) (x89 + 1))) else (bif isZs x30 (repl 32 [AV.bool false]) 0 then some (.stop (pntsI4 c d m b (x30) (0) (1048575))) else none)) := by kernel_rfl
theorem pnts_step2 (c : tChart.den) (d m : Int) (b : tBox.den) (x0 : Int) (x10 : Int) (x37 : List AV) (x105 : Nat) (x110 : Nat) : adv F2 ((Z2 [34, 111]).flat [9]) 3000 (pntsI2 c d m b x0 x10 x37 (x105 + 1) (x110 + 1)) = (bif !ile (wr IntKind.i64 (wr IntKind.i64 (b.snd.fst.snd.fst - b.snd.fst.fst) + 1)) x10 then (bif !(ieq (wr IntKind.i64 (b.fst.fst + x0)) (c.fst.snd.getD m.toNat tMark.dflt).snd.fst.fst && (ieq (wr IntKind.i64 (b.snd.fst.fst + x10)) (c.fst.snd.getD m.toNat tMark.dflt).snd.fst.snd.fst && true)) then (bif inW (wr IntKind.i64 ((c.fst.snd.getD m.toNat tMark.dflt).snd.fst.fst - wr IntKind.i64 (b.fst.fst + x0))) (wr IntKind.i64 ((c.fst.snd.getD m.toNat tMark.dflt).snd.fst.snd.fst - wr IntKind.i64 (b.snd.fst.fst + x10))) then (bif inB (ptF (wr IntKind.i64 ((c.fst.snd.getD m.toNat tMark.dflt).snd.fst.fst - wr IntKind.i64 (b.fst.fst + x0))) (wr IntKind.i64 ((c.fst.snd.getD m.toNat tMark.dflt).snd.fst.snd.fst - wr IntKind.i64 (b.snd.fst.fst + x10)))) 32 then (bif (0 + (ptF (wr IntKind.i64 ((c.fst.snd.getD m.toNat tMark.dflt).snd.fst.fst - wr IntKind.i64 (b.fst.fst + x0))) (wr IntKind.i64 ((c.fst.snd.getD m.toNat tMark.dflt).snd.fst.snd.fst - wr IntKind.i64 (b.snd.fst.fst + x10)))).toNat * 1 + 1).ble x37.length then (bif plO (AO.cells false (x37.set (0 + (ptF (wr IntKind.i64 ((c.fst.snd.getD m.toNat tMark.dflt).snd.fst.fst - wr IntKind.i64 (b.fst.fst + x0))) (wr IntKind.i64 ((c.fst.snd.getD m.toNat tMark.dflt).snd.fst.snd.fst - wr IntKind.i64 (b.snd.fst.fst + x10)))).toNat * 1) (AV.bool true))) then some (.stop (pntsI2 c d m b (x0) (wr IntKind.i64 (x10 + 1)) (x37.set (0 + (ptF (wr IntKind.i64 ((c.fst.snd.getD m.toNat tMark.dflt).snd.fst.fst - wr IntKind.i64 (b.fst.fst + x0))) (wr IntKind.i64 ((c.fst.snd.getD m.toNat tMark.dflt).snd.fst.snd.fst - wr IntKind.i64 (b.snd.fst.fst + x10)))).toNat * 1) (AV.bool true)) (x105) (x110 + 1))) else none) else none) else none) else none) else (bif plO (AO.cells false x37) then some (.stop (pntsI2 c d m b (x0) (wr IntKind.i64 (x10 + 1)) (x37) (x105) (x110 + 1))) else none)) else (bif plO (AO.cells false x37) then some (.stop (pntsI0 c d m b (wr IntKind.i64 (x0 + 1)) (x37) (x110))) else none)) := by kernel_rfl
theorem pnts_step4 (c : tChart.den) (d m : Int) (b : tBox.den) (x48 : List AV) (x49 : Int) (x133 : Nat) : adv F2 ((Z2 [34, 111]).flat [9]) 3000 (pntsI4 c d m b x48 x49 (x133 + 1)) = (bif !ile 32 x49 then (bif inB x49 32 then (bif isZs (asZs x48 (repl 32 [AV.bool false]) 0) [AV.bool false] (x49.toNat * 1) then (bif toB ((asZs x48 (repl 32 [AV.bool false]) 0).getD (x49.toNat * 1) AV.nili) then (bif plO (AO.cells false x48) then some (.stop (pntsI5 c d m b (1) (x48) (wr IntKind.i64 (x49 + 1)) ([AV.int IntKind.i64 x49]) (x133))) else none) else (bif plO (AO.cells false x48) then some (.stop (pntsI4 c d m b (x48) (wr IntKind.i64 (x49 + 1)) (x133))) else none)) else none) else none) else some (.done (.tup [.nils, (.int .i64 (0))]))) := by kernel_rfl
theorem pnts_step5 (c : tChart.den) (d m : Int) (b : tBox.den) (x13 : Nat) (x50 : List AV) (x51 : Int) (x85 : List AV) (x136 : Nat) : adv F2 ((Z2 [34, 111]).flat [9]) 3000 (pntsI5 c d m b x13 x50 x51 x85 (x136 + 1)) = (bif !ile 32 x51 then (bif inB x51 32 then (bif isZs (asZs x50 (repl 32 [AV.bool false]) 0) [AV.bool false] (x51.toNat * 1) then (bif toB ((asZs x50 (repl 32 [AV.bool false]) 0).getD (x51.toNat * 1) AV.nili) then (bif (0 + x13 * 1).beq x85.length then (bif x13.ble 1048576 then (bif plO (AO.cells false (x85 ++ [AV.int IntKind.i64 x51])) then (bif plO (AO.cells false x50) then some (.stop (pntsI5 c d m b (x13 + 1) (x50) (wr IntKind.i64 (x51 + 1)) (x85 ++ [AV.int IntKind.i64 x51]) (x136))) else none) else none) else none) else none) else (bif plO (AO.cells false x85) then (bif plO (AO.cells false x50) then some (.stop (pntsI5 c d m b (x13) (x50) (wr IntKind.i64 (x51 + 1)) (x85) (x136))) else none) else none)) else none) else none) else (bif plainL x85 then some (.done (.tup [(.csl (x85) (x13)), (.int .i64 (0))])) else none)) := by kernel_rfl
noncomputable def dirsI0 (c : tChart.den) (d m : Int) (b : tBox.den) (x81 : Nat) : Cfg := ⟨.ex (pcOf F2 35 [0, 0, 1, 0, 1, 1, 1, 1, 1, 1]) ⟨(tmOf 76 [(0, (.agg [(.vs tMark (c.fst.fst) (c.fst.snd)), (.vs tSand (c.snd.fst.fst) (c.snd.fst.snd))])), (1, (.int .i64 (d))), (2, (.int .i64 (m))), (3, (.agg [(.int .i64 (b.fst.fst)), (.int .i64 (b.fst.snd.fst)), (.int .i64 (b.snd.fst.fst)), (.int .i64 (b.snd.fst.snd.fst))])), (4, (.ptr 0 0)), (7, (.ptr 1 0)), (8, .nils), (9, (.int .i64 (0))), (10, (.int .i64 (stdE c d m))), (11, (.sl 2 0 (32) (32) 1)), (12, (.vs tP (false) (pts b.fst.fst b.fst.snd.fst b.snd.fst.fst b.snd.fst.snd.fst))), (13, (.int .i64 (0))), (16, (.agg [(.vs tMark (c.fst.fst) (c.fst.snd)), (.vs tSand (c.snd.fst.fst) (c.snd.fst.snd))])), (17, (.int .i64 (d))), (18, (.int .i64 (m))), (19, (.int .i64 (stdE c d m))), (20, (.int .i64 (stdE c d m))), (21, (.bool (false))), (24, (.int .i64 (stdE c d m))), (25, (.bool (false))), (27, (.sl 2 0 (32) (32) 1)), (28, (.agg [(.int .i64 (b.fst.fst)), (.int .i64 (b.fst.snd.fst)), (.int .i64 (b.snd.fst.fst)), (.int .i64 (b.snd.fst.snd.fst))])), (29, (.vs tP (false) (pts b.fst.fst b.fst.snd.fst b.snd.fst.fst b.snd.fst.snd.fst)))]), (hpOf 3 [(0, (.cells false [(.vs tMark (c.fst.fst) (c.fst.snd)), (.vs tSand (c.snd.fst.fst) (c.snd.fst.snd))])), (1, (.cells false [(.int .i64 (b.fst.fst)), (.int .i64 (b.fst.snd.fst)), (.int .i64 (b.snd.fst.fst)), (.int .i64 (b.snd.fst.snd.fst))])), (2, (.cells false (repl 32 [AV.bool false])))]), [], [], 76, false⟩, ⟨8, []⟩, [(.lop (pcOf F2 35 [0, 0, 1, 0, 1, 1, 1, 1, 1, 1]) 3 (tmOf 76 [(0, (.agg [(.vs tMark (c.fst.fst) (c.fst.snd)), (.vs tSand (c.snd.fst.fst) (c.snd.fst.snd))])), (1, (.int .i64 (d))), (2, (.int .i64 (m))), (3, (.agg [(.int .i64 (b.fst.fst)), (.int .i64 (b.fst.snd.fst)), (.int .i64 (b.snd.fst.fst)), (.int .i64 (b.snd.fst.snd.fst))])), (4, (.ptr 0 0)), (7, (.ptr 1 0)), (8, .nils), (9, (.int .i64 (0))), (10, (.int .i64 (stdE c d m))), (11, (.sl 2 0 (32) (32) 1)), (12, (.vs tP (false) (pts b.fst.fst b.fst.snd.fst b.snd.fst.fst b.snd.fst.snd.fst))), (13, (.int .i64 (0))), (16, (.agg [(.vs tMark (c.fst.fst) (c.fst.snd)), (.vs tSand (c.snd.fst.fst) (c.snd.fst.snd))])), (17, (.int .i64 (d))), (18, (.int .i64 (m))), (19, (.int .i64 (stdE c d m))), (20, (.int .i64 (stdE c d m))), (21, (.bool (false))), (24, (.int .i64 (stdE c d m))), (25, (.bool (false))), (27, (.sl 2 0 (32) (32) 1)), (28, (.agg [(.int .i64 (b.fst.fst)), (.int .i64 (b.fst.snd.fst)), (.int .i64 (b.snd.fst.fst)), (.int .i64 (b.snd.fst.snd.fst))])), (29, (.vs tP (false) (pts b.fst.fst b.fst.snd.fst b.snd.fst.fst b.snd.fst.snd.fst)))]) x81), (.blk 0), (.seq (pcOf F2 35 [1, 1, 1, 1, 1, 1, 1])), (.cal [(.tmp 8), (.tmp 9)] .top)]⟩
noncomputable def dirsI1 (c : tChart.den) (d m : Int) (b : tBox.den) (x16 : Int) (x57 : List AV) (x99 : Nat) : Cfg := ⟨.ex (pcOf F2 35 [0, 0, 1, 0, 1, 1, 1, 1, 1, 1]) ⟨(tmOf 76 [(0, (.agg [(.vs tMark (c.fst.fst) (c.fst.snd)), (.vs tSand (c.snd.fst.fst) (c.snd.fst.snd))])), (1, (.int .i64 (d))), (2, (.int .i64 (m))), (3, (.agg [(.int .i64 (b.fst.fst)), (.int .i64 (b.fst.snd.fst)), (.int .i64 (b.snd.fst.fst)), (.int .i64 (b.snd.fst.snd.fst))])), (4, (.ptr 0 0)), (7, (.ptr 1 0)), (8, .nils), (9, (.int .i64 (0))), (10, (.int .i64 (0))), (11, (.sl 4 0 (32) (32) 1)), (12, (.vs tP (false) (pts b.fst.fst b.fst.snd.fst b.snd.fst.fst b.snd.fst.snd.fst))), (13, (.int .i64 x16)), (16, (.agg [(.vs tMark (c.fst.fst) (c.fst.snd)), (.vs tSand (c.snd.fst.fst) (c.snd.fst.snd))])), (17, (.int .i64 (d))), (18, (.int .i64 (m))), (19, (.int .i64 (stdE c d m))), (20, (.int .i64 (stdE c d m))), (21, (.bool (true))), (22, (.agg [(.int .i64 (b.fst.fst)), (.int .i64 (b.fst.snd.fst)), (.int .i64 (b.snd.fst.fst)), (.int .i64 (b.snd.fst.snd.fst))])), (23, (.int .i64 (0))), (24, (.int .i64 (0))), (25, (.bool (false))), (27, (.sl 4 0 (32) (32) 1)), (28, (.agg [(.int .i64 (b.fst.fst)), (.int .i64 (b.fst.snd.fst)), (.int .i64 (b.snd.fst.fst)), (.int .i64 (b.snd.fst.snd.fst))])), (29, (.vs tP (false) (pts b.fst.fst b.fst.snd.fst b.snd.fst.fst b.snd.fst.snd.fst)))]), (hpOf 5 [(0, (.cells false [(.vs tMark (c.fst.fst) (c.fst.snd)), (.vs tSand (c.snd.fst.fst) (c.snd.fst.snd))])), (1, (.cells false [(.int .i64 (b.fst.fst)), (.int .i64 (b.fst.snd.fst)), (.int .i64 (b.snd.fst.fst)), (.int .i64 (b.snd.fst.snd.fst))])), (2, (.cells false [(.int .i64 (b.fst.fst)), (.int .i64 (b.fst.snd.fst)), (.int .i64 (b.snd.fst.fst)), (.int .i64 (b.snd.fst.snd.fst))])), (3, (.cells true [(.int .i64 (b.fst.fst)), (.int .i64 (b.fst.snd.fst)), (.int .i64 (b.snd.fst.fst)), (.int .i64 (b.snd.fst.snd.fst))])), (4, (.cells false x57))]), [], [], 76, false⟩, ⟨8, []⟩, [(.lop (pcOf F2 35 [0, 0, 1, 0, 1, 1, 1, 1, 1, 1]) 5 (tmOf 76 [(0, (.agg [(.vs tMark (c.fst.fst) (c.fst.snd)), (.vs tSand (c.snd.fst.fst) (c.snd.fst.snd))])), (1, (.int .i64 (d))), (2, (.int .i64 (m))), (3, (.agg [(.int .i64 (b.fst.fst)), (.int .i64 (b.fst.snd.fst)), (.int .i64 (b.snd.fst.fst)), (.int .i64 (b.snd.fst.snd.fst))])), (4, (.ptr 0 0)), (7, (.ptr 1 0)), (8, .nils), (9, (.int .i64 (0))), (10, (.int .i64 (0))), (11, (.sl 4 0 (32) (32) 1)), (12, (.vs tP (false) (pts b.fst.fst b.fst.snd.fst b.snd.fst.fst b.snd.fst.snd.fst))), (13, (.int .i64 (0))), (16, (.agg [(.vs tMark (c.fst.fst) (c.fst.snd)), (.vs tSand (c.snd.fst.fst) (c.snd.fst.snd))])), (17, (.int .i64 (d))), (18, (.int .i64 (m))), (19, (.int .i64 (stdE c d m))), (20, (.int .i64 (stdE c d m))), (21, (.bool (true))), (22, (.agg [(.int .i64 (b.fst.fst)), (.int .i64 (b.fst.snd.fst)), (.int .i64 (b.snd.fst.fst)), (.int .i64 (b.snd.fst.snd.fst))])), (23, (.int .i64 (0))), (24, (.int .i64 (0))), (25, (.bool (false))), (27, (.sl 4 0 (32) (32) 1)), (28, (.agg [(.int .i64 (b.fst.fst)), (.int .i64 (b.fst.snd.fst)), (.int .i64 (b.snd.fst.fst)), (.int .i64 (b.snd.fst.snd.fst))])), (29, (.vs tP (false) (pts b.fst.fst b.fst.snd.fst b.snd.fst.fst b.snd.fst.snd.fst)))]) x99), (.blk 0), (.seq (pcOf F2 35 [1, 1, 1, 1, 1, 1, 1])), (.cal [(.tmp 8), (.tmp 9)] .top)]⟩
noncomputable def dirsI2 (c : tChart.den) (d m : Int) (b : tBox.den) (x16 : Int) (x17 : Int) (x63 : List AV) (x111 : Nat) : Cfg := ⟨.ex (pcOf F2 35 [0, 0, 1, 0, 1, 1, 1, 1, 1, 1, 1, 1]) ⟨(tmOf 76 [(0, (.agg [(.vs tMark (c.fst.fst) (c.fst.snd)), (.vs tSand (c.snd.fst.fst) (c.snd.fst.snd))])), (1, (.int .i64 (d))), (2, (.int .i64 (m))), (3, (.agg [(.int .i64 (b.fst.fst)), (.int .i64 (b.fst.snd.fst)), (.int .i64 (b.snd.fst.fst)), (.int .i64 (b.snd.fst.snd.fst))])), (4, (.ptr 0 0)), (7, (.ptr 1 0)), (8, .nils), (9, (.int .i64 (0))), (10, (.int .i64 (0))), (11, (.sl 4 0 (32) (32) 1)), (12, (.vs tP (false) (pts b.fst.fst b.fst.snd.fst b.snd.fst.fst b.snd.fst.snd.fst))), (13, (.int .i64 x16)), (14, .nils), (15, (.int .i64 x17)), (16, (.agg [(.vs tMark (c.fst.fst) (c.fst.snd)), (.vs tSand (c.snd.fst.fst) (c.snd.fst.snd))])), (17, (.int .i64 (d))), (18, (.int .i64 (m))), (19, (.int .i64 (stdE c d m))), (20, (.int .i64 (stdE c d m))), (21, (.bool (true))), (22, (.agg [(.int .i64 (b.fst.fst)), (.int .i64 (b.fst.snd.fst)), (.int .i64 (b.snd.fst.fst)), (.int .i64 (b.snd.fst.snd.fst))])), (23, (.int .i64 (0))), (24, (.int .i64 (0))), (25, (.bool (false))), (27, (.sl 4 0 (32) (32) 1)), (28, (.agg [(.int .i64 (b.fst.fst)), (.int .i64 (b.fst.snd.fst)), (.int .i64 (b.snd.fst.fst)), (.int .i64 (b.snd.fst.snd.fst))])), (29, (.vs tP (false) (pts b.fst.fst b.fst.snd.fst b.snd.fst.fst b.snd.fst.snd.fst))), (30, (.int .i64 x16)), (31, (.vs tP (false) (pts b.fst.fst b.fst.snd.fst b.snd.fst.fst b.snd.fst.snd.fst))), (32, (.int .i64 (Int.ofNat (pts b.fst.fst b.fst.snd.fst b.snd.fst.fst b.snd.fst.snd.fst).length))), (33, (.bool (false)))]), (hpOf 5 [(0, (.cells false [(.vs tMark (c.fst.fst) (c.fst.snd)), (.vs tSand (c.snd.fst.fst) (c.snd.fst.snd))])), (1, (.cells false [(.int .i64 (b.fst.fst)), (.int .i64 (b.fst.snd.fst)), (.int .i64 (b.snd.fst.fst)), (.int .i64 (b.snd.fst.snd.fst))])), (2, (.cells false [(.int .i64 (b.fst.fst)), (.int .i64 (b.fst.snd.fst)), (.int .i64 (b.snd.fst.fst)), (.int .i64 (b.snd.fst.snd.fst))])), (3, (.cells true [(.int .i64 (b.fst.fst)), (.int .i64 (b.fst.snd.fst)), (.int .i64 (b.snd.fst.fst)), (.int .i64 (b.snd.fst.snd.fst))])), (4, (.cells false x63))]), [], [], 76, false⟩, ⟨8, []⟩, [(.lop (pcOf F2 35 [0, 0, 1, 0, 1, 1, 1, 1, 1, 1, 1, 1]) 5 (tmOf 76 [(0, (.agg [(.vs tMark (c.fst.fst) (c.fst.snd)), (.vs tSand (c.snd.fst.fst) (c.snd.fst.snd))])), (1, (.int .i64 (d))), (2, (.int .i64 (m))), (3, (.agg [(.int .i64 (b.fst.fst)), (.int .i64 (b.fst.snd.fst)), (.int .i64 (b.snd.fst.fst)), (.int .i64 (b.snd.fst.snd.fst))])), (4, (.ptr 0 0)), (7, (.ptr 1 0)), (8, .nils), (9, (.int .i64 (0))), (10, (.int .i64 (0))), (11, (.sl 4 0 (32) (32) 1)), (12, (.vs tP (false) (pts b.fst.fst b.fst.snd.fst b.snd.fst.fst b.snd.fst.snd.fst))), (13, (.int .i64 x16)), (14, .nils), (15, (.int .i64 (0))), (16, (.agg [(.vs tMark (c.fst.fst) (c.fst.snd)), (.vs tSand (c.snd.fst.fst) (c.snd.fst.snd))])), (17, (.int .i64 (d))), (18, (.int .i64 (m))), (19, (.int .i64 (stdE c d m))), (20, (.int .i64 (stdE c d m))), (21, (.bool (true))), (22, (.agg [(.int .i64 (b.fst.fst)), (.int .i64 (b.fst.snd.fst)), (.int .i64 (b.snd.fst.fst)), (.int .i64 (b.snd.fst.snd.fst))])), (23, (.int .i64 (0))), (24, (.int .i64 (0))), (25, (.bool (false))), (27, (.sl 4 0 (32) (32) 1)), (28, (.agg [(.int .i64 (b.fst.fst)), (.int .i64 (b.fst.snd.fst)), (.int .i64 (b.snd.fst.fst)), (.int .i64 (b.snd.fst.snd.fst))])), (29, (.vs tP (false) (pts b.fst.fst b.fst.snd.fst b.snd.fst.fst b.snd.fst.snd.fst))), (30, (.int .i64 x16)), (31, (.vs tP (false) (pts b.fst.fst b.fst.snd.fst b.snd.fst.fst b.snd.fst.snd.fst))), (32, (.int .i64 (Int.ofNat (pts b.fst.fst b.fst.snd.fst b.snd.fst.fst b.snd.fst.snd.fst).length))), (33, (.bool (false)))]) x111), (.blk 2), (.seq (pcOf F2 35 [1, 1, 1, 1, 1, 1, 1, 1, 1])), (.cal [(.tmp 8), (.tmp 9)] .top)]⟩
noncomputable def dirsI3 (c : tChart.den) (d m : Int) (b : tBox.den) (x16 : Int) (x17 : Nat) (x19 : Int) (x65 : List AV) (x66 : List AV) (x114 : Nat) : Cfg := ⟨.ex (pcOf F2 35 [0, 0, 1, 0, 1, 1, 1, 1, 1, 1, 1, 1]) ⟨(tmOf 76 [(0, (.agg [(.vs tMark (c.fst.fst) (c.fst.snd)), (.vs tSand (c.snd.fst.fst) (c.snd.fst.snd))])), (1, (.int .i64 (d))), (2, (.int .i64 (m))), (3, (.agg [(.int .i64 (b.fst.fst)), (.int .i64 (b.fst.snd.fst)), (.int .i64 (b.snd.fst.fst)), (.int .i64 (b.snd.fst.snd.fst))])), (4, (.ptr 0 0)), (7, (.ptr 1 0)), (8, .nils), (9, (.int .i64 (0))), (10, (.int .i64 (0))), (11, (.sl 4 0 (32) (32) 1)), (12, (.vs tP (false) (pts b.fst.fst b.fst.snd.fst b.snd.fst.fst b.snd.fst.snd.fst))), (13, (.int .i64 x16)), (14, (.sl 5 0 x17 x17 1)), (15, (.int .i64 x19)), (16, (.agg [(.vs tMark (c.fst.fst) (c.fst.snd)), (.vs tSand (c.snd.fst.fst) (c.snd.fst.snd))])), (17, (.int .i64 (d))), (18, (.int .i64 (m))), (19, (.int .i64 (stdE c d m))), (20, (.int .i64 (stdE c d m))), (21, (.bool (true))), (22, (.agg [(.int .i64 (b.fst.fst)), (.int .i64 (b.fst.snd.fst)), (.int .i64 (b.snd.fst.fst)), (.int .i64 (b.snd.fst.snd.fst))])), (23, (.int .i64 (0))), (24, (.int .i64 (0))), (25, (.bool (false))), (27, (.sl 4 0 (32) (32) 1)), (28, (.agg [(.int .i64 (b.fst.fst)), (.int .i64 (b.fst.snd.fst)), (.int .i64 (b.snd.fst.fst)), (.int .i64 (b.snd.fst.snd.fst))])), (29, (.vs tP (false) (pts b.fst.fst b.fst.snd.fst b.snd.fst.fst b.snd.fst.snd.fst))), (30, (.int .i64 x16)), (31, (.vs tP (false) (pts b.fst.fst b.fst.snd.fst b.snd.fst.fst b.snd.fst.snd.fst))), (32, (.int .i64 (Int.ofNat (pts b.fst.fst b.fst.snd.fst b.snd.fst.fst b.snd.fst.snd.fst).length))), (33, (.bool (false)))]), (hpOf 6 [(0, (.cells false [(.vs tMark (c.fst.fst) (c.fst.snd)), (.vs tSand (c.snd.fst.fst) (c.snd.fst.snd))])), (1, (.cells false [(.int .i64 (b.fst.fst)), (.int .i64 (b.fst.snd.fst)), (.int .i64 (b.snd.fst.fst)), (.int .i64 (b.snd.fst.snd.fst))])), (2, (.cells false [(.int .i64 (b.fst.fst)), (.int .i64 (b.fst.snd.fst)), (.int .i64 (b.snd.fst.fst)), (.int .i64 (b.snd.fst.snd.fst))])), (3, (.cells true [(.int .i64 (b.fst.fst)), (.int .i64 (b.fst.snd.fst)), (.int .i64 (b.snd.fst.fst)), (.int .i64 (b.snd.fst.snd.fst))])), (4, (.cells false x65)), (5, (.cells false x66))]), [], [], 76, false⟩, ⟨8, []⟩, [(.lop (pcOf F2 35 [0, 0, 1, 0, 1, 1, 1, 1, 1, 1, 1, 1]) 5 (tmOf 76 [(0, (.agg [(.vs tMark (c.fst.fst) (c.fst.snd)), (.vs tSand (c.snd.fst.fst) (c.snd.fst.snd))])), (1, (.int .i64 (d))), (2, (.int .i64 (m))), (3, (.agg [(.int .i64 (b.fst.fst)), (.int .i64 (b.fst.snd.fst)), (.int .i64 (b.snd.fst.fst)), (.int .i64 (b.snd.fst.snd.fst))])), (4, (.ptr 0 0)), (7, (.ptr 1 0)), (8, .nils), (9, (.int .i64 (0))), (10, (.int .i64 (0))), (11, (.sl 4 0 (32) (32) 1)), (12, (.vs tP (false) (pts b.fst.fst b.fst.snd.fst b.snd.fst.fst b.snd.fst.snd.fst))), (13, (.int .i64 x16)), (14, .nils), (15, (.int .i64 (0))), (16, (.agg [(.vs tMark (c.fst.fst) (c.fst.snd)), (.vs tSand (c.snd.fst.fst) (c.snd.fst.snd))])), (17, (.int .i64 (d))), (18, (.int .i64 (m))), (19, (.int .i64 (stdE c d m))), (20, (.int .i64 (stdE c d m))), (21, (.bool (true))), (22, (.agg [(.int .i64 (b.fst.fst)), (.int .i64 (b.fst.snd.fst)), (.int .i64 (b.snd.fst.fst)), (.int .i64 (b.snd.fst.snd.fst))])), (23, (.int .i64 (0))), (24, (.int .i64 (0))), (25, (.bool (false))), (27, (.sl 4 0 (32) (32) 1)), (28, (.agg [(.int .i64 (b.fst.fst)), (.int .i64 (b.fst.snd.fst)), (.int .i64 (b.snd.fst.fst)), (.int .i64 (b.snd.fst.snd.fst))])), (29, (.vs tP (false) (pts b.fst.fst b.fst.snd.fst b.snd.fst.fst b.snd.fst.snd.fst))), (30, (.int .i64 x16)), (31, (.vs tP (false) (pts b.fst.fst b.fst.snd.fst b.snd.fst.fst b.snd.fst.snd.fst))), (32, (.int .i64 (Int.ofNat (pts b.fst.fst b.fst.snd.fst b.snd.fst.fst b.snd.fst.snd.fst).length))), (33, (.bool (false)))]) x114), (.blk 2), (.seq (pcOf F2 35 [1, 1, 1, 1, 1, 1, 1, 1, 1])), (.cal [(.tmp 8), (.tmp 9)] .top)]⟩
theorem dirs_start (c : tChart.den) (d m : Int) (b : tBox.den) : adv F2 (Z2 [35]) 3000 (startC F2 35 [tChart.av c, .int .i64 d, .int .i64 m, tBox.av b] 8) = (bif ieq (stdE c d m) 0 then (bif ile (-30000) b.fst.fst then (bif !ile b.fst.fst 30000 then some (.done (.tup [.nils, (.int .i64 (7))])) else (bif ile (-30000) b.fst.snd.fst then (bif !ile b.fst.snd.fst 30000 then some (.done (.tup [.nils, (.int .i64 (7))])) else (bif !ile b.fst.fst b.fst.snd.fst then (bif ile (-30000) b.snd.fst.fst then (bif !ile b.snd.fst.fst 30000 then some (.done (.tup [.nils, (.int .i64 (7))])) else (bif ile (-30000) b.snd.fst.snd.fst then (bif !ile b.snd.fst.snd.fst 30000 then some (.done (.tup [.nils, (.int .i64 (7))])) else (bif !ile b.snd.fst.fst b.snd.fst.snd.fst then some (.done (.tup [.nils, (.int .i64 (2))])) else some (.done (.tup [.nils, (.int .i64 (2))])))) else some (.done (.tup [.nils, (.int .i64 (7))])))) else some (.done (.tup [.nils, (.int .i64 (7))]))) else (bif ile (-30000) b.snd.fst.fst then (bif !ile b.snd.fst.fst 30000 then some (.done (.tup [.nils, (.int .i64 (7))])) else (bif ile (-30000) b.snd.fst.snd.fst then (bif !ile b.snd.fst.snd.fst 30000 then some (.done (.tup [.nils, (.int .i64 (7))])) else (bif !ile b.snd.fst.fst b.snd.fst.snd.fst then some (.done (.tup [.nils, (.int .i64 (2))])) else (bif !ile (wr IntKind.i64 (b.fst.snd.fst - b.fst.fst)) 40 then some (.done (.tup [.nils, (.int .i64 (2))])) else (bif !ile (wr IntKind.i64 (b.snd.fst.snd.fst - b.snd.fst.fst)) 40 then some (.done (.tup [.nils, (.int .i64 (2))])) else (bif bK b.fst.fst b.fst.snd.fst b.snd.fst.fst b.snd.fst.snd.fst then some (.stop (dirsI1 c d m b (0) (repl 32 [AV.bool false]) (1048575))) else none))))) else some (.done (.tup [.nils, (.int .i64 (7))])))) else some (.done (.tup [.nils, (.int .i64 (7))]))))) else some (.done (.tup [.nils, (.int .i64 (7))])))) else some (.done (.tup [.nils, (.int .i64 (7))]))) else (bif !ieq (stdE c d m) 0 then some (.done (.tup [.nils, (.int .i64 (stdE c d m))])) else (bif bK b.fst.fst b.fst.snd.fst b.snd.fst.fst b.snd.fst.snd.fst then some (.stop (dirsI0 c d m b (1048575))) else none))) := by kernel_rfl
theorem dirs_step1 (c : tChart.den) (d m : Int) (b : tBox.den) (x16 : Int) (x57 : List AV) (x99 : Nat) : adv F2 (Z2 [35]) 3000 (dirsI1 c d m b x16 x57 (x99 + 1)) = (bif !ile (↑(pts b.fst.fst b.fst.snd.fst b.snd.fst.fst b.snd.fst.snd.fst).length) x16 then (bif inB x16 (pts b.fst.fst b.fst.snd.fst b.snd.fst.fst b.snd.fst.snd.fst).length then (bif inB m c.fst.snd.length then (bif !(ieq ((pts b.fst.fst b.fst.snd.fst b.snd.fst.fst b.snd.fst.snd.fst).getD x16.toNat tP.dflt).fst (c.fst.snd.getD m.toNat tMark.dflt).snd.fst.fst && (ieq ((pts b.fst.fst b.fst.snd.fst b.snd.fst.fst b.snd.fst.snd.fst).getD x16.toNat tP.dflt).snd.fst (c.fst.snd.getD m.toNat tMark.dflt).snd.fst.snd.fst && true)) then (bif inB m c.fst.snd.length then (bif inB x16 (pts b.fst.fst b.fst.snd.fst b.snd.fst.fst b.snd.fst.snd.fst).length then (bif inW (wr IntKind.i64 ((c.fst.snd.getD m.toNat tMark.dflt).snd.fst.fst - ((pts b.fst.fst b.fst.snd.fst b.snd.fst.fst b.snd.fst.snd.fst).getD x16.toNat tP.dflt).fst)) (wr IntKind.i64 ((c.fst.snd.getD m.toNat tMark.dflt).snd.fst.snd.fst - ((pts b.fst.fst b.fst.snd.fst b.snd.fst.fst b.snd.fst.snd.fst).getD x16.toNat tP.dflt).snd.fst)) && nz (wr IntKind.i64 ((c.fst.snd.getD m.toNat tMark.dflt).snd.fst.fst - ((pts b.fst.fst b.fst.snd.fst b.snd.fst.fst b.snd.fst.snd.fst).getD x16.toNat tP.dflt).fst)) (wr IntKind.i64 ((c.fst.snd.getD m.toNat tMark.dflt).snd.fst.snd.fst - ((pts b.fst.fst b.fst.snd.fst b.snd.fst.fst b.snd.fst.snd.fst).getD x16.toNat tP.dflt).snd.fst)) then (bif inB (ptF (wr IntKind.i64 ((c.fst.snd.getD m.toNat tMark.dflt).snd.fst.fst - ((pts b.fst.fst b.fst.snd.fst b.snd.fst.fst b.snd.fst.snd.fst).getD x16.toNat tP.dflt).fst)) (wr IntKind.i64 ((c.fst.snd.getD m.toNat tMark.dflt).snd.fst.snd.fst - ((pts b.fst.fst b.fst.snd.fst b.snd.fst.fst b.snd.fst.snd.fst).getD x16.toNat tP.dflt).snd.fst))) 32 then (bif (0 + (ptF (wr IntKind.i64 ((c.fst.snd.getD m.toNat tMark.dflt).snd.fst.fst - ((pts b.fst.fst b.fst.snd.fst b.snd.fst.fst b.snd.fst.snd.fst).getD x16.toNat tP.dflt).fst)) (wr IntKind.i64 ((c.fst.snd.getD m.toNat tMark.dflt).snd.fst.snd.fst - ((pts b.fst.fst b.fst.snd.fst b.snd.fst.fst b.snd.fst.snd.fst).getD x16.toNat tP.dflt).snd.fst))).toNat * 1 + 1).ble x57.length then (bif bbeq c.fst.fst c.fst.fst then (bif vsB tMark c.fst.snd tMark c.fst.snd then (bif plO (AO.cells false (x57.set (0 + (ptF (wr IntKind.i64 ((c.fst.snd.getD m.toNat tMark.dflt).snd.fst.fst - ((pts b.fst.fst b.fst.snd.fst b.snd.fst.fst b.snd.fst.snd.fst).getD x16.toNat tP.dflt).fst)) (wr IntKind.i64 ((c.fst.snd.getD m.toNat tMark.dflt).snd.fst.snd.fst - ((pts b.fst.fst b.fst.snd.fst b.snd.fst.fst b.snd.fst.snd.fst).getD x16.toNat tP.dflt).snd.fst))).toNat * 1) (AV.bool true))) then some (.stop (dirsI1 c d m b (wr IntKind.i64 (x16 + 1)) (x57.set (0 + (ptF (wr IntKind.i64 ((c.fst.snd.getD m.toNat tMark.dflt).snd.fst.fst - ((pts b.fst.fst b.fst.snd.fst b.snd.fst.fst b.snd.fst.snd.fst).getD x16.toNat tP.dflt).fst)) (wr IntKind.i64 ((c.fst.snd.getD m.toNat tMark.dflt).snd.fst.snd.fst - ((pts b.fst.fst b.fst.snd.fst b.snd.fst.fst b.snd.fst.snd.fst).getD x16.toNat tP.dflt).snd.fst))).toNat * 1) (AV.bool true)) (x99))) else none) else none) else none) else none) else none) else none) else none) else none) else (bif plO (AO.cells false x57) then some (.stop (dirsI1 c d m b (wr IntKind.i64 (x16 + 1)) (x57) (x99))) else none)) else none) else none) else some (.stop (dirsI2 c d m b (x16) (0) (x57) (1048575)))) := by kernel_rfl
theorem dirs_step2 (c : tChart.den) (d m : Int) (b : tBox.den) (x16 : Int) (x17 : Int) (x63 : List AV) (x111 : Nat) : adv F2 (Z2 [35]) 3000 (dirsI2 c d m b x16 x17 x63 (x111 + 1)) = (bif !ile (↑32) x17 then (bif inB x17 32 then (bif isZs x63 [AV.bool false] (0 + x17.toNat * 1) then (bif toB (x63.getD (0 + x17.toNat * 1) AV.nili) then (bif plO (AO.cells false x63) then some (.stop (dirsI3 c d m b (x16) (1) (wr IntKind.i64 (x17 + 1)) (x63) ([AV.int IntKind.i64 x17]) (x111))) else none) else (bif plO (AO.cells false x63) then some (.stop (dirsI2 c d m b (x16) (wr IntKind.i64 (x17 + 1)) (x63) (x111))) else none)) else none) else none) else some (.done (.tup [.nils, (.int .i64 (0))]))) := by kernel_rfl
theorem dirs_step3 (c : tChart.den) (d m : Int) (b : tBox.den) (x16 : Int) (x17 : Nat) (x19 : Int) (x65 : List AV) (x66 : List AV) (x114 : Nat) : adv F2 (Z2 [35]) 3000 (dirsI3 c d m b x16 x17 x19 x65 x66 (x114 + 1)) = (bif !ile (↑32) x19 then (bif inB x19 32 then (bif isZs x65 [AV.bool false] (0 + x19.toNat * 1) then (bif toB (x65.getD (0 + x19.toNat * 1) AV.nili) then (bif (0 + x17 * 1).beq x66.length then (bif x17.ble 1048576 then (bif plO (AO.cells false (x66 ++ [AV.int IntKind.i64 x19])) then (bif plO (AO.cells false x65) then some (.stop (dirsI3 c d m b (x16) (x17 + 1) (wr IntKind.i64 (x19 + 1)) (x65) (x66 ++ [AV.int IntKind.i64 x19]) (x114))) else none) else none) else none) else none) else (bif plO (AO.cells false x66) then (bif plO (AO.cells false x65) then some (.stop (dirsI3 c d m b (x16) (x17) (wr IntKind.i64 (x19 + 1)) (x65) (x66) (x114))) else none) else none)) else none) else none) else (bif plainL x66 then some (.done (.tup [(.csl (x66) (x17)), (.int .i64 (0))])) else none)) := by kernel_rfl
/-! ### Cells of truth values -/
theorem Tells.tupL {a b : List AV} (h : TellsL a b) : Tells (.tup a) (.tup b) := fun V R x => by
  cases x with
  | tup _ A ha hav =>
    have k := h V A ⟨ha, hav⟩
    exact .tup _ _ k.1 k.2
noncomputable def bl (B : List Bool) : List AV := B.map AV.bool
theorem bl_len (B : List Bool) : (bl B).length = B.length := by simp [bl]
theorem bl_get {B : List Bool} {k : Nat} (h : k < B.length) : (bl B).getD k .nili = .bool (B.getD k false) := by
  unfold bl; simp [h]
theorem bl_set (B : List Bool) (k : Nat) : (bl B).set k (.bool true) = bl (B.set k true) := by
  unfold bl; rw [List.map_set]
theorem bl_plain : ∀ B : List Bool, plainL (bl B) = true
  | [] => rfl
  | _ :: B => bl_plain B
theorem bl_isZs {B : List Bool} : ∀ (n off : Nat), off + n ≤ B.length → isZs (bl B) (repl n [AV.bool false]) off = true
  | 0, _, _ => rfl
  | n + 1, off, h => by
    show (Nat.ble (off + 1) (bl B).length && (isZ (AV.bool false) ((bl B).getD off .nili) && isZs (bl B) (repl n [AV.bool false]) (off + 1))) = true
    rw [bl_get (by omega), bl_isZs n (off + 1) (by omega), bl_len, Nat.ble_eq_true_of_le (by omega)]; rfl
theorem repl_len (n : Nat) (z : AV) : (repl n [z]).length = n := by
  induction n with
  | zero => rfl
  | succ n ih => show (z :: repl n [z]).length = _; rw [List.length_cons, ih]
theorem bl_asZs {B : List Bool} (h : B.length = 32) : asZs (bl B) (repl 32 [AV.bool false]) 0 = bl B := by
  rw [← isZs_take (bl_isZs 32 0 (by omega)), List.drop_zero, repl_len]
  exact List.take_of_length_le (by rw [bl_len]; omega)
theorem bl_rep : ∀ n : Nat, repl n [AV.bool false] = bl (List.replicate n false)
  | 0 => rfl
  | n + 1 => by show AV.bool false :: repl n [AV.bool false] = _; rw [bl_rep n]; rfl
theorem bl_at {B : List Bool} {k : Nat} (h : k < B.length) : isZs (bl B) [AV.bool false] ((k : Int).toNat * 1) = true ∧ toB ((bl B).getD ((k : Int).toNat * 1) .nili) = B.getD k false := by
  have e : (k : Int).toNat * 1 = k := by simp
  rw [e]
  refine ⟨bl_isZs 1 k (by omega), ?_⟩
  rw [bl_get h]; rfl
theorem bl_at0 {B : List Bool} {k : Nat} (h : k < B.length) : isZs (bl B) [AV.bool false] (0 + (k : Int).toNat * 1) = true ∧ toB ((bl B).getD (0 + (k : Int).toNat * 1) .nili) = B.getD k false := by
  rw [Nat.zero_add]; exact bl_at h
theorem flatI_len (l : List Int) : (flat tI l).length = l.length := by
  induction l with
  | nil => rfl
  | cons a l ih => show (AV.int .i64 a :: flat tI l).length = _; rw [List.length_cons, ih]; rfl
theorem flatI_plain (l : List Int) : plainL (flat tI l) = true := by
  induction l with
  | nil => rfl
  | cons a l ih => exact ih
theorem flatI_add (l : List Int) (x : Int) : flat tI l ++ [.int .i64 x] = flat tI (l ++ [x]) := by
  unfold flat; rw [List.flatMap_append]; rfl
theorem beq_flatI (l : List Int) : (0 + l.length * 1).beq (flat tI l).length = true := by
  rw [flatI_len, Nat.zero_add, Nat.mul_one]; exact Nat.beq_refl _
/-! ### The points in which a mark is seen from a box -/
noncomputable def outG (B : List Bool) : Nat → Nat → List Int
  | _, 0 => []
  | k, r + 1 => bif B.getD k false then (k : Int) :: outG B (k + 1) r else outG B (k + 1) r
noncomputable def tupL (r : List Int × Int) : AV := .tup [.vs tI r.1.isEmpty r.1, .int .i64 r.2]
theorem doneL0 {E : Env} {S : Sy} (hS : S.ok E) (hsy : E.sy = true) {n : Nat} {c : Cfg} {e : Int} {r : List Int × Int} (h : adv E S n c = some (.done (.tup [.nils, .int .i64 e]))) (he : ([], e) = r) : Ans E c (tupL r) := by
  subst he
  exact .doneT hS hsy h (Tells.tupL (.cons .nils (.refl _)))
theorem doneL1 {E : Env} {S : Sy} (hS : S.ok E) (hsy : E.sy = true) {n : Nat} {c : Cfg} {l : List Int} {e : Int} {r : List Int × Int} (h : adv E S n c = some (.done (.tup [.csl (flat tI l) l.length, .int .i64 e]))) (hl : l ≠ []) (he : (l, e) = r) : Ans E c (tupL r) := by
  subst he
  have h1 : tupL (l, e) = .tup [.vs tI false l, .int .i64 e] := by
    unfold tupL
    cases l with
    | nil => exact absurd rfl hl
    | cons a l => rfl
  rw [h1]
  exact .doneT hS hsy h (Tells.tupL (.cons .csl (.refl _)))
theorem ile32 {k : Nat} (h : k < 32) : ile 32 (k : Int) = false := by rw [ile_iff]; simp; omega
theorem inB32 {k : Nat} (h : k < 32) : inB (k : Int) 32 = true := inB_at h
theorem pnt5 (c : tChart.den) (d m : Int) (b : tBox.den) (B : List Bool) (hB : B.length = 32) : ∀ (r k n : Nat) (acc : List Int), k + r = 32 → r < n → acc ≠ [] → acc.length ≤ k → Ans F2 (pntsI5 c d m b acc.length (bl B) k (flat tI acc) n) (tupL (acc ++ outG B k r, 0))
  | 0, k, n + 1, acc, hk, hn, ha, hl => by
    have h := pnts_step5 c d m b acc.length (bl B) k (flat tI acc) n
    have e : k = 32 := by omega
    subst e
    simp only [show ile 32 ((32 : Nat) : Int) = true from rfl, Bool.not_true, cond_false, flatI_plain, cond_true] at h
    exact doneL1 (Sy.flat_ok (Z2_ok _)) F2sy h ha (by rw [outG, List.append_nil])
  | r + 1, k, n + 1, acc, hk, hn, ha, hl => by
    have h := pnts_step5 c d m b acc.length (bl B) k (flat tI acc) n
    obtain ⟨b1, b2⟩ := bl_at (B := B) (k := k) (by omega)
    have e2 : acc.length.ble 1048576 = true := Nat.ble_eq_true_of_le (by omega)
    rw [bl_asZs hB] at h
    simp only [ile32 (show k < 32 by omega), inB32 (show k < 32 by omega), b1, b2, e2, plO, bl_plain, flatI_add, flatI_plain, wr_succ (show k < 1048577 by omega), Bool.not_false, cond_true] at h
    rw [beq_flatI] at h
    rw [outG]
    cases e : B.getD k false with
    | true =>
      simp only [e, cond_true] at h ⊢
      have ih := pnt5 c d m b B hB r (k + 1) n (acc ++ [(k : Int)]) (by omega) (by omega) (by simp) (by simp; omega)
      rw [show (acc ++ [(k : Int)]).length = acc.length + 1 by simp] at ih
      refine .stopE (Sy.flat_ok (Z2_ok _)) F2sy h ih ?_
      rw [List.append_assoc]; rfl
    | false =>
      simp only [e, cond_false] at h ⊢
      exact .stop (Sy.flat_ok (Z2_ok _)) F2sy h (pnt5 c d m b B hB r (k + 1) n acc (by omega) (by omega) ha (by omega))
theorem pnt4 (c : tChart.den) (d m : Int) (b : tBox.den) (B : List Bool) (hB : B.length = 32) : ∀ (r k n : Nat), k + r = 32 → r < n → Ans F2 (pntsI4 c d m b (bl B) k n) (tupL (outG B k r, 0))
  | 0, k, n + 1, hk, hn => by
    have h := pnts_step4 c d m b (bl B) k n
    have e : k = 32 := by omega
    subst e
    simp only [show ile 32 ((32 : Nat) : Int) = true from rfl, Bool.not_true, cond_false] at h
    exact doneL0 (Sy.flat_ok (Z2_ok _)) F2sy h rfl
  | r + 1, k, n + 1, hk, hn => by
    have h := pnts_step4 c d m b (bl B) k n
    obtain ⟨b1, b2⟩ := bl_at (B := B) (k := k) (by omega)
    rw [bl_asZs hB] at h
    simp only [ile32 (show k < 32 by omega), inB32 (show k < 32 by omega), b1, b2, plO, bl_plain, wr_succ (show k < 1048577 by omega), Bool.not_false, cond_true] at h
    rw [outG]
    cases e : B.getD k false with
    | true =>
      simp only [e, cond_true] at h ⊢
      exact .stop (Sy.flat_ok (Z2_ok _)) F2sy h (pnt5 c d m b B hB r (k + 1) n [(k : Int)] (by omega) (by omega) (by simp) (by simp))
    | false =>
      simp only [e, cond_false] at h ⊢
      exact .stop (Sy.flat_ok (Z2_ok _)) F2sy h (pnt4 c d m b B hB r (k + 1) n (by omega) (by omega))
theorem dir3 (c : tChart.den) (d m : Int) (b : tBox.den) (B : List Bool) (hB : B.length = 32) (q : Int) : ∀ (r k n : Nat) (acc : List Int), k + r = 32 → r < n → acc ≠ [] → acc.length ≤ k → Ans F2 (dirsI3 c d m b q acc.length k (bl B) (flat tI acc) n) (tupL (acc ++ outG B k r, 0))
  | 0, k, n + 1, acc, hk, hn, ha, hl => by
    have h := dirs_step3 c d m b q acc.length k (bl B) (flat tI acc) n
    have e : k = 32 := by omega
    subst e
    simp only [show ile 32 ((32 : Nat) : Int) = true from rfl, Bool.not_true, cond_false, flatI_plain, cond_true] at h
    exact doneL1 (Z2_ok _) F2sy h ha (by rw [outG, List.append_nil])
  | r + 1, k, n + 1, acc, hk, hn, ha, hl => by
    have h := dirs_step3 c d m b q acc.length k (bl B) (flat tI acc) n
    obtain ⟨b1, b2⟩ := bl_at0 (B := B) (k := k) (by omega)
    have e2 : acc.length.ble 1048576 = true := Nat.ble_eq_true_of_le (by omega)
    simp only [ile32 (show k < 32 by omega), inB32 (show k < 32 by omega), b1, b2, e2, plO, bl_plain, flatI_add, flatI_plain, wr_succ (show k < 1048577 by omega), Bool.not_false, cond_true] at h
    rw [beq_flatI] at h
    rw [outG]
    cases e : B.getD k false with
    | true =>
      simp only [e, cond_true] at h ⊢
      have ih := dir3 c d m b B hB q r (k + 1) n (acc ++ [(k : Int)]) (by omega) (by omega) (by simp) (by simp; omega)
      rw [show (acc ++ [(k : Int)]).length = acc.length + 1 by simp] at ih
      refine .stopE (Z2_ok _) F2sy h ih ?_
      rw [List.append_assoc]; rfl
    | false =>
      simp only [e, cond_false] at h ⊢
      exact .stop (Z2_ok _) F2sy h (dir3 c d m b B hB q r (k + 1) n acc (by omega) (by omega) ha (by omega))
theorem dir2 (c : tChart.den) (d m : Int) (b : tBox.den) (B : List Bool) (hB : B.length = 32) (q : Int) : ∀ (r k n : Nat), k + r = 32 → r < n → Ans F2 (dirsI2 c d m b q k (bl B) n) (tupL (outG B k r, 0))
  | 0, k, n + 1, hk, hn => by
    have h := dirs_step2 c d m b q k (bl B) n
    have e : k = 32 := by omega
    subst e
    simp only [show ile 32 ((32 : Nat) : Int) = true from rfl, Bool.not_true, cond_false] at h
    exact doneL0 (Z2_ok _) F2sy h rfl
  | r + 1, k, n + 1, hk, hn => by
    have h := dirs_step2 c d m b q k (bl B) n
    obtain ⟨b1, b2⟩ := bl_at0 (B := B) (k := k) (by omega)
    simp only [ile32 (show k < 32 by omega), inB32 (show k < 32 by omega), b1, b2, plO, bl_plain, wr_succ (show k < 1048577 by omega), Bool.not_false, cond_true] at h
    rw [outG]
    cases e : B.getD k false with
    | true =>
      simp only [e, cond_true] at h ⊢
      exact .stop (Z2_ok _) F2sy h (dir3 c d m b B hB q r (k + 1) n [(k : Int)] (by omega) (by omega) (by simp) (by simp))
    | false =>
      simp only [e, cond_false] at h ⊢
      exact .stop (Z2_ok _) F2sy h (dir2 c d m b B hB q r (k + 1) n (by omega) (by omega))
end Go.Proofs.YtffnpkbopjjdaaaGreatDoor

/-
  LOOPS, told by their heads.
-/
set_option maxRecDepth 100000
namespace Go.Proofs.YtffnpkbopjjdaaaGreatDoor
open Go Go.Eng
/-! ### The places of the box -/
theorem ieq_comm (a b : Int) : ieq a b = ieq b a := by
  rw [ieq_iff, ieq_iff]
  by_cases h : a = b
  · subst h; rfl
  · rw [decide_eq_false h, decide_eq_false (fun e => h e.symm)]
noncomputable def hit (a b : Int) (B : List Bool) (x y : Int) : List Bool := bif ieq x a && ieq y b then B else B.set (ptF (a - x) (b - y)).toNat true
noncomputable def hitL (a b : Int) : List tP.den → List Bool → List Bool
  | [], B => B
  | p :: l, B => hitL a b l (hit a b B p.1 p.2.1)
theorem hit_len {a b : Int} {B : List Bool} {x y : Int} : (hit a b B x y).length = B.length := by
  unfold hit
  cases (ieq x a && ieq y b) <;> simp
theorem hitL_len {a b : Int} : ∀ {l : List tP.den} {B : List Bool}, (hitL a b l B).length = B.length
  | [], _ => rfl
  | p :: l, B => by rw [hitL, hitL_len, hit_len]
theorem hitL_app {a b : Int} : ∀ (l m : List tP.den) (B : List Bool), hitL a b (l ++ m) B = hitL a b m (hitL a b l B)
  | [], _, _ => rfl
  | p :: l, m, B => by show hitL a b (l ++ m) _ = _; rw [hitL_app l m]; rfl
theorem ptF_nat (x y : Int) : (ptF x y).toNat < 32 ∧ inB (ptF x y) 32 = true := by
  have := ptF_b x y
  rw [inV_iff] at this
  refine ⟨by omega, ?_⟩
  rw [inB_iff]; simp; omega
theorem ble_at {k n : Nat} (h : k < n) : (0 + k * 1 + 1).ble n = true := Nat.ble_eq_true_of_le (by omega)
section
variable (c : tChart.den) (d m : Int) (bx : tBox.den) (x0 x1 y0 y1 a b : Int) (hx0 : bx.1.1 = x0) (hx1 : bx.1.2.1 = x1) (hy0 : bx.2.1.1 = y0) (hy1 : bx.2.1.2.1 = y1)
  (ha : (c.1.2.getD m.toNat tMark.dflt).2.1.1 = a) (hb : (c.1.2.getD m.toNat tMark.dflt).2.1.2.1 = b) (hm : inR a b = true) (nx ny : Nat) (hnx : x1 - x0 + 1 = nx) (hny : y1 - y0 + 1 = ny) (hn : nx ≤ 41 ∧ ny ≤ 41) (hr : (-30000 ≤ x0 ∧ x1 ≤ 30000) ∧ -30000 ≤ y0 ∧ y1 ≤ 30000)
include hx0 hx1 hy0 hy1 ha hb hm hnx hny hn hr
theorem pnt2 (i : Nat) (hi : i < nx) (M : Nat) (R : List tP.den) (K : ∀ B : List Bool, B.length = 32 → Ans F2 (pntsI0 c d m bx ((i + 1 : Nat) : Int) (bl B) M) (tupL (outG (hitL a b R B) 0 32, 0))) :
    ∀ (r j n : Nat) (B : List Bool), j + r = ny → r < n → B.length = 32 → Ans F2 (pntsI2 c d m bx i j (bl B) n (M + 1)) (tupL (outG (hitL a b (rowY (x0 + i) (y0 + j) r ++ R) B) 0 32, 0))
  | 0, j, n + 1, B, hj, hk, hB => by
    have h := pnts_step2 c d m bx i j (bl B) n M
    have e : wr .i64 (wr .i64 (y1 - y0) + 1) = (ny : Int) := by rw [wr_in (n := y1 - y0) (by omega) (by omega), wr_in (by omega) (by omega)]; exact hny
    simp only [hx0, hx1, hy0, hy1, e, ile_ge (show ny ≤ j by omega), plO, bl_plain, wr_succ (show i < 1048577 by omega), Bool.not_true, cond_true, cond_false] at h
    exact .stop (Sy.flat_ok (Z2_ok _)) F2sy h (K B hB)
  | r + 1, j, n + 1, B, hj, hk, hB => by
    have h := pnts_step2 c d m bx i j (bl B) n M
    have e : wr .i64 (wr .i64 (y1 - y0) + 1) = (ny : Int) := by rw [wr_in (n := y1 - y0) (by omega) (by omega), wr_in (by omega) (by omega)]; exact hny
    have wx : wr .i64 (x0 + (i : Int)) = x0 + i := wr_in (by omega) (by omega)
    have wy : wr .i64 (y0 + (j : Int)) = y0 + j := wr_in (by omega) (by omega)
    obtain ⟨w1, w2, w3⟩ := dif_wr hm (x := x0 + i) (y := y0 + j) (by rw [inR_iff]; omega)
    obtain ⟨p1, p2⟩ := ptF_nat (a - (x0 + i)) (b - (y0 + j))
    have ih := fun B' hB' => pnt2 i hi M R K r (j + 1) n B' (by omega) (by omega) hB'
    rw [show y0 + ((j + 1 : Nat) : Int) = y0 + j + 1 by omega] at ih
    simp only [hx0, hx1, hy0, hy1, ha, hb, e, wx, wy, w1, w2, w3, p2, ble_at (show (ptF (a - (x0 + i)) (b - (y0 + j))).toNat < (bl B).length by rw [bl_len]; omega), ile_lt (show j < ny by omega), plO, bl_plain, bl_set, wr_succ (show j < 1048577 by omega), Bool.and_true, Bool.not_false, cond_true] at h
    rw [rowY, List.cons_append, hitL, hit]
    cases c1 : (ieq (x0 + i) a && ieq (y0 + j) b) with
    | true =>
      simp only [c1, Bool.not_true, cond_false, cond_true] at h ⊢
      exact .stop (Sy.flat_ok (Z2_ok _)) F2sy h (ih B hB)
    | false =>
      simp only [c1, Bool.not_false, cond_false, cond_true, Nat.zero_add, Nat.mul_one] at h ⊢
      exact .stop (Sy.flat_ok (Z2_ok _)) F2sy h (ih _ (by rw [List.length_set]; exact hB))
theorem pnt0 : ∀ (r i n : Nat) (B : List Bool), i + r = nx → r < n → B.length = 32 → Ans F2 (pntsI0 c d m bx i (bl B) n) (tupL (outG (hitL a b (ptsX y0 ny (x0 + i) r) B) 0 32, 0))
  | 0, i, n + 1, B, hi, hk, hB => by
    have h := pnts_step0 c d m bx i (bl B) n
    have e : wr .i64 (wr .i64 (x1 - x0) + 1) = (nx : Int) := by rw [wr_in (n := x1 - x0) (by omega) (by omega), wr_in (by omega) (by omega)]; exact hnx
    simp only [hx0, hx1, e, ile_ge (show nx ≤ i by omega), bl_isZs 32 0 (show 0 + 32 ≤ B.length by omega), Bool.not_true, cond_true, cond_false] at h
    exact .stop (Sy.flat_ok (Z2_ok _)) F2sy h (pnt4 c d m bx B hB 32 0 1048575 (by omega) (by omega))
  | r + 1, i, n + 1, B, hi, hk, hB => by
    have h := pnts_step0 c d m bx i (bl B) n
    have e : wr .i64 (wr .i64 (x1 - x0) + 1) = (nx : Int) := by rw [wr_in (n := x1 - x0) (by omega) (by omega), wr_in (by omega) (by omega)]; exact hnx
    simp only [hx0, hx1, e, ile_lt (show i < nx by omega), Bool.not_false, cond_true] at h
    refine .stop (Sy.flat_ok (Z2_ok _)) F2sy h ?_
    have ih := pnt2 c d m bx x0 x1 y0 y1 a b hx0 hx1 hy0 hy1 ha hb hm nx ny hnx hny hn hr i (by omega) n (ptsX y0 ny (x0 + ((i + 1 : Nat) : Int)) r) (fun B' hB' => pnt0 r (i + 1) n B' (by omega) (by omega) hB') ny 0 1048575 B (by omega) (by omega) hB
    rw [ptsX]
    rw [show y0 + ((0 : Nat) : Int) = y0 by omega, show x0 + ((i + 1 : Nat) : Int) = x0 + i + 1 by omega] at ih
    exact ih
end
theorem rowY_in {x : Int} : ∀ {r : Nat} {y : Int} {p : tP.den}, p ∈ rowY x y r → ∃ v : Int, p = (x, v, ()) ∧ y ≤ v ∧ v < y + r
  | 0, _, _, h => by cases h
  | r + 1, y, p, h => by
    rw [rowY, List.mem_cons] at h
    rcases h with rfl | h
    · exact ⟨y, rfl, by omega, by omega⟩
    · obtain ⟨v, h1, h2, h3⟩ := rowY_in h
      exact ⟨v, h1, by omega, by omega⟩
theorem ptsX_in {y0 : Int} {n : Nat} : ∀ {r : Nat} {x : Int} {p : tP.den}, p ∈ ptsX y0 n x r → ∃ u v : Int, p = (u, v, ()) ∧ (x ≤ u ∧ u < x + r) ∧ y0 ≤ v ∧ v < y0 + n
  | 0, _, _, h => by cases h
  | r + 1, x, p, h => by
    rw [ptsX, List.mem_append] at h
    rcases h with h | h
    · obtain ⟨v, h1, h2, h3⟩ := rowY_in h
      exact ⟨x, v, h1, ⟨by omega, by omega⟩, h2, h3⟩
    · obtain ⟨u, v, h1, ⟨h2, h3⟩, h4⟩ := ptsX_in h
      exact ⟨u, v, h1, ⟨by omega, by omega⟩, h4⟩
theorem dir1 (c : tChart.den) (d m : Int) (bx : tBox.den) (a b : Int) (L : List tP.den) (hL : pts bx.1.1 bx.1.2.1 bx.2.1.1 bx.2.1.2.1 = L) (hi : ∀ p ∈ L, inR p.1 p.2.1 = true) (hlen : L.length < 10000) (hmb : inB m c.1.2.length = true)
    (ha : (c.1.2.getD m.toNat tMark.dflt).2.1.1 = a) (hb : (c.1.2.getD m.toNat tMark.dflt).2.1.2.1 = b) (hm : inR a b = true) :
    ∀ (r k n : Nat) (B : List Bool), k + r = L.length → r < n → B.length = 32 → Ans F2 (dirsI1 c d m bx k (bl B) n) (tupL (outG (hitL a b (L.drop k) B) 0 32, 0))
  | 0, k, n + 1, B, hk, hn, hB => by
    have h := dirs_step1 c d m bx k (bl B) n
    simp only [hL, ile_ge (show L.length ≤ k by omega), Bool.not_true, cond_false] at h
    rw [List.drop_eq_nil_of_le (by omega)]
    exact .stop (Z2_ok _) F2sy h (dir2 c d m bx B hB k 32 0 1048575 (by omega) (by omega))
  | r + 1, k, n + 1, B, hk, hn, hB => by
    have h := dirs_step1 c d m bx k (bl B) n
    have hlt : k < L.length := by omega
    rw [List.drop_eq_getElem_cons hlt, hitL]
    have hin := hi L[k] (List.getElem_mem hlt)
    simp only [hL, ile_lt hlt, inB_at hlt, getD_at hlt, hmb, ha, hb, Bool.not_false, cond_true] at h
    obtain ⟨x, hx⟩ : ∃ x : Int, (L[k]).1 = x := ⟨_, rfl⟩
    obtain ⟨y, hy⟩ : ∃ x : Int, (L[k]).2.1 = x := ⟨_, rfl⟩
    simp only [hx, hy] at h hin ⊢
    obtain ⟨w1, w2, w3⟩ := dif_wr hm hin
    obtain ⟨p1, p2⟩ := ptF_nat (a - x) (b - y)
    have ih := fun B' hB' => dir1 c d m bx a b L hL hi hlen hmb ha hb hm r (k + 1) n B' (by omega) (by omega) hB'
    simp only [w1, w2, w3, p2, ble_at (show (ptF (a - x) (b - y)).toNat < (bl B).length by rw [bl_len]; omega), bbeq_self, vsB_self, plO, bl_plain, bl_set, wr_succ (show k < 1048577 by omega), Bool.and_true, Bool.true_and, Bool.not_false, cond_true] at h
    rw [hit]
    cases c1 : (ieq x a && ieq y b) with
    | true =>
      simp only [c1, Bool.not_true, cond_false, cond_true] at h ⊢
      exact .stop (Z2_ok _) F2sy h (ih B hB)
    | false =>
      have hz : nz (a - x) (b - y) = true := nz_of (by rw [ieq_comm a, ieq_comm b]; exact c1)
      simp only [c1, hz, Bool.not_false, cond_false, cond_true, Nat.zero_add, Nat.mul_one] at h ⊢
      exact .stop (Z2_ok _) F2sy h (ih _ (by rw [List.length_set]; exact hB))
theorem ptsX_len (y0 : Int) (n : Nat) : ∀ (r : Nat) (x : Int), (ptsX y0 n x r).length = r * n
  | 0, _ => by rw [Nat.zero_mul]; rfl
  | r + 1, x => by rw [ptsX, List.length_append, rowY_len, ptsX_len y0 n r, Nat.add_mul, Nat.one_mul, Nat.add_comm]
/-! ### Points and Directions -/
noncomputable def in8 (x0 x1 y0 y1 : Int) : Bool := ile (-30000) x0 && ile x0 30000 && ile (-30000) x1 && ile x1 30000 && ile (-30000) y0 && ile y0 30000 && ile (-30000) y1 && ile y1 30000
theorem in8_iff {x0 x1 y0 y1 : Int} : in8 x0 x1 y0 y1 = true ↔ ((((((-30000 ≤ x0 ∧ x0 ≤ 30000) ∧ -30000 ≤ x1) ∧ x1 ≤ 30000) ∧ -30000 ≤ y0) ∧ y0 ≤ 30000) ∧ -30000 ≤ y1) ∧ y1 ≤ 30000 := by
  simp only [in8, Bool.and_eq_true, ile_iff, decide_eq_true_eq]
theorem fit4_iff {a b c d : Int} : fit4 a b c d = true ↔ ((a ≤ b ∧ c ≤ d) ∧ b - a ≤ 40) ∧ d - c ≤ 40 := by
  simp only [fit4, Bool.and_eq_true, ile_iff, decide_eq_true_eq]
noncomputable def boxP (a b x0 x1 y0 y1 : Int) : List Int × Int := bif in8 x0 x1 y0 y1 then (bif fit4 x0 x1 y0 y1 then (outG (hitL a b (pts x0 x1 y0 y1) (List.replicate 32 false)) 0 32, 0) else ([], 2)) else ([], 7)
noncomputable def pntS (c : tChart.den) (d m x0 x1 y0 y1 : Int) : List Int × Int := bif ieq (stdE c d m) 0 then boxP (mk c m).2.1.1 (mk c m).2.1.2.1 x0 x1 y0 y1 else ([], stdE c d m)
theorem fitC {a b : Int} (h1 : ile (-30000) a = true) (h2 : ile a 30000 = true) : ieq b (bif ile (bif ile b a then a else b) (wr IntKind.i64 (a + 40)) then (bif ile b a then a else b) else wr IntKind.i64 (a + 40)) = (ile a b && ile (b - a) 40) := by
  rw [ile_iff] at h1 h2
  simp only [decide_eq_true_eq] at h1 h2
  rw [wr_in (by omega) (by omega)]
  simp only [ile_iff, ieq_iff]
  by_cases c1 : b ≤ a
  · simp only [c1, decide_true, cond_true, show a ≤ a + 40 by omega]
    by_cases c2 : b = a
    · subst c2; simp
    · have : ¬ a ≤ b := by omega
      simp [c2, this]
  · have c1' : a ≤ b := by omega
    simp only [c1, decide_false, cond_false, c1', decide_true, Bool.true_and]
    by_cases c2 : b ≤ a + 40
    · have : b - a ≤ 40 := by omega
      simp [c2, this]
    · have : ¬ b - a ≤ 40 := by omega
      have c3 : ¬ b = a + 40 := by omega
      simp [c2, this, c3]
theorem pnts_call (c : tChart.den) (d m : Int) (bx : tBox.den) : AnsF F2 34 [tChart.av c, .int .i64 d, .int .i64 m, tBox.av bx] (tupL (pntS c d m bx.1.1 bx.1.2.1 bx.2.1.1 bx.2.1.2.1)) := by
  refine Ans.call (n := 8) (ext_none (by kernel_rfl)) (hasB_spec (by kernel_rfl)) ?_
  have h := pnts_start c d m bx
  unfold pntS
  cases c1 : ieq (stdE c d m) 0 with
  | false =>
    simp only [c1, Bool.not_false, cond_true, cond_false] at h ⊢
    exact doneL0 (Sy.flat_ok (Z2_ok _)) F2sy h rfl
  | true =>
    have hv := datE_ok (stdE_ok (ieq_t c1))
    have hm := mk_in hv.1 hv.2
    obtain ⟨x0, hx0⟩ : ∃ x : Int, bx.1.1 = x := ⟨_, rfl⟩
    obtain ⟨x1, hx1⟩ : ∃ x : Int, bx.1.2.1 = x := ⟨_, rfl⟩
    obtain ⟨y0, hy0⟩ : ∃ x : Int, bx.2.1.1 = x := ⟨_, rfl⟩
    obtain ⟨y1, hy1⟩ : ∃ x : Int, bx.2.1.2.1 = x := ⟨_, rfl⟩
    unfold mk at hm ⊢
    simp only [c1, hv.2, hx0, hx1, hy0, hy1, wm30, ieq_self, Bool.not_true, cond_true, cond_false] at h ⊢
    unfold boxP in8
    cases d1 : ile (-30000) x0 <;> cases d2 : ile x0 30000 <;>
      try (simp only [d1, d2, Bool.not_false, Bool.not_true, Bool.and_self, Bool.and_true, Bool.and_false, Bool.false_and, Bool.true_and, cond_true, cond_false] at h ⊢; exact doneL0 (Sy.flat_ok (Z2_ok _)) F2sy h rfl)
    cases d3 : ile (-30000) x1 <;> cases d4 : ile x1 30000 <;>
      try (simp only [d1, d2, d3, d4, Bool.not_false, Bool.not_true, Bool.and_self, Bool.and_true, Bool.and_false, Bool.false_and, Bool.true_and, cond_true, cond_false] at h ⊢; exact doneL0 (Sy.flat_ok (Z2_ok _)) F2sy h rfl)
    cases d5 : ile (-30000) y0 <;> cases d6 : ile y0 30000 <;>
      try (simp only [d1, d2, d3, d4, d5, d6, Bool.not_false, Bool.not_true, Bool.and_self, Bool.and_true, Bool.and_false, Bool.false_and, Bool.true_and, cond_true, cond_false] at h ⊢; exact doneL0 (Sy.flat_ok (Z2_ok _)) F2sy h rfl)
    cases d7 : ile (-30000) y1 <;> cases d8 : ile y1 30000 <;>
      try (simp only [d1, d2, d3, d4, d5, d6, d7, d8, Bool.not_false, Bool.not_true, Bool.and_self, Bool.and_true, Bool.and_false, Bool.false_and, Bool.true_and, cond_true, cond_false] at h ⊢; exact doneL0 (Sy.flat_ok (Z2_ok _)) F2sy h rfl)
    have h8 : in8 x0 x1 y0 y1 = true := by unfold in8; rw [d1, d2, d3, d4, d5, d6, d7, d8]; rfl
    rw [in8_iff] at h8
    simp only [d1, d2, d3, d4, d5, d6, d7, d8, fitC d1 d2, fitC d5 d6, Bool.not_true, Bool.and_self, Bool.and_true, Bool.true_and, cond_true, cond_false] at h ⊢
    have hf : fit4 x0 x1 y0 y1 = ((ile x0 x1 && ile (x1 - x0) 40) && (ile y0 y1 && ile (y1 - y0) 40)) := by
      unfold fit4
      cases ile x0 x1 <;> cases ile (x1 - x0) 40 <;> cases ile y0 y1 <;> cases ile (y1 - y0) 40 <;> rfl
    rw [← hf] at h
    cases c2 : fit4 x0 x1 y0 y1 with
    | false =>
      simp only [c2, Bool.not_false, cond_true, cond_false] at h ⊢
      exact doneL0 (Sy.flat_ok (Z2_ok _)) F2sy h rfl
    | true =>
      simp only [c2, Bool.not_true, cond_true, cond_false] at h ⊢
      rw [fit4_iff] at c2
      rw [bl_rep] at h
      refine .stop (Sy.flat_ok (Z2_ok _)) F2sy h ?_
      have ih := pnt0 c d m bx x0 x1 y0 y1 _ _ hx0 hx1 hy0 hy1 rfl rfl hm (x1 - x0 + 1).toNat (y1 - y0 + 1).toNat (by omega) (by omega) (by omega) (by omega) (x1 - x0 + 1).toNat 0 1048575 (List.replicate 32 false) (by omega) (by omega) (List.length_replicate ..)
      rw [show x0 + ((0 : Nat) : Int) = x0 by omega] at ih
      exact ih
theorem dirs_call (c : tChart.den) (d m : Int) (bx : tBox.den) : AnsF F2 35 [tChart.av c, .int .i64 d, .int .i64 m, tBox.av bx] (tupL (pntS c d m bx.1.1 bx.1.2.1 bx.2.1.1 bx.2.1.2.1)) := by
  refine Ans.call (n := 8) (ext_none (by kernel_rfl)) (hasB_spec (by kernel_rfl)) ?_
  have h := dirs_start c d m bx
  unfold pntS
  cases c1 : ieq (stdE c d m) 0 with
  | false =>
    simp only [c1, Bool.not_false, cond_true, cond_false] at h ⊢
    exact doneL0 (Z2_ok _) F2sy h rfl
  | true =>
    have hv := datE_ok (stdE_ok (ieq_t c1))
    have hm := mk_in hv.1 hv.2
    obtain ⟨x0, hx0⟩ : ∃ x : Int, bx.1.1 = x := ⟨_, rfl⟩
    obtain ⟨x1, hx1⟩ : ∃ x : Int, bx.1.2.1 = x := ⟨_, rfl⟩
    obtain ⟨y0, hy0⟩ : ∃ x : Int, bx.2.1.1 = x := ⟨_, rfl⟩
    obtain ⟨y1, hy1⟩ : ∃ x : Int, bx.2.1.2.1 = x := ⟨_, rfl⟩
    unfold mk at hm ⊢
    simp only [c1, hx0, hx1, hy0, hy1, Bool.not_true, cond_true, cond_false] at h ⊢
    unfold boxP in8
    cases d1 : ile (-30000) x0 <;> cases d2 : ile x0 30000 <;>
      try (simp only [d1, d2, Bool.not_false, Bool.not_true, Bool.and_self, Bool.and_true, Bool.and_false, Bool.false_and, Bool.true_and, cond_true, cond_false] at h ⊢; exact doneL0 (Z2_ok _) F2sy h rfl)
    cases d3 : ile (-30000) x1 <;> cases d4 : ile x1 30000 <;>
      try (simp only [d1, d2, d3, d4, Bool.not_false, Bool.not_true, Bool.and_self, Bool.and_true, Bool.and_false, Bool.false_and, Bool.true_and, cond_true, cond_false] at h ⊢; exact doneL0 (Z2_ok _) F2sy h rfl)
    cases d5 : ile (-30000) y0 <;> cases d6 : ile y0 30000 <;>
      try (simp only [d1, d2, d3, d4, d5, d6, Bool.not_false, Bool.not_true, Bool.and_self, Bool.and_true, Bool.and_false, Bool.false_and, Bool.true_and, cond_true, cond_false] at h ⊢; cases cx : ile x0 x1 <;> (simp only [cx, Bool.not_false, Bool.not_true, cond_true, cond_false] at h; exact doneL0 (Z2_ok _) F2sy h rfl))
    cases d7 : ile (-30000) y1 <;> cases d8 : ile y1 30000 <;>
      try (simp only [d1, d2, d3, d4, d5, d6, d7, d8, Bool.not_false, Bool.not_true, Bool.and_self, Bool.and_true, Bool.and_false, Bool.false_and, Bool.true_and, cond_true, cond_false] at h ⊢; cases cx : ile x0 x1 <;> (simp only [cx, Bool.not_false, Bool.not_true, cond_true, cond_false] at h; exact doneL0 (Z2_ok _) F2sy h rfl))
    have h8 : in8 x0 x1 y0 y1 = true := by unfold in8; rw [d1, d2, d3, d4, d5, d6, d7, d8]; rfl
    rw [in8_iff] at h8
    have w1 : wr .i64 (x1 - x0) = x1 - x0 := wr_in (by omega) (by omega)
    have w2 : wr .i64 (y1 - y0) = y1 - y0 := wr_in (by omega) (by omega)
    unfold fit4
    cases cx : ile x0 x1 <;> cases cy : ile y0 y1 <;> cases ex : ile (x1 - x0) 40 <;> cases ey : ile (y1 - y0) 40 <;>
      try (simp only [d1, d2, d3, d4, d5, d6, d7, d8, w1, w2, cx, cy, ex, ey, Bool.not_false, Bool.not_true, Bool.and_self, Bool.and_true, Bool.and_false, Bool.false_and, Bool.true_and, cond_true, cond_false] at h ⊢; exact doneL0 (Z2_ok _) F2sy h rfl)
    have c2 : fit4 x0 x1 y0 y1 = true := by unfold fit4; rw [cx, cy, ex, ey]; rfl
    rw [fit4_iff] at c2
    have hk : bK x0 x1 y0 y1 = true := by rw [bK_iff]; omega
    simp only [d1, d2, d3, d4, d5, d6, d7, d8, w1, w2, cx, cy, ex, ey, hk, Bool.not_true, Bool.and_self, cond_true, cond_false] at h ⊢
    rw [bl_rep] at h
    refine .stop (Z2_ok _) F2sy h ?_
    have hlen : (pts x0 x1 y0 y1).length ≤ 41 * 41 := by
      unfold pts; rw [ptsX_len]; exact Nat.mul_le_mul (by omega) (by omega)
    have ih := dir1 c d m bx _ _ (pts x0 x1 y0 y1) (by rw [hx0, hx1, hy0, hy1]) (fun p hp => by
      unfold pts at hp
      obtain ⟨u, v, rfl, ⟨h1, h2⟩, h3, h4⟩ := ptsX_in hp
      show inR u v = true
      rw [inR_iff]
      omega) (by omega) hv.2 rfl rfl hm (pts x0 x1 y0 y1).length 0 1048575 (List.replicate 32 false) (by omega) (by omega) (List.length_replicate ..)
    rw [List.drop_zero] at ih
    exact ih
end Go.Proofs.YtffnpkbopjjdaaaGreatDoor

/-
  LOOPS, told by their heads.
-/
set_option maxRecDepth 100000
namespace Go.Proofs.YtffnpkbopjjdaaaGreatDoor
open Go Go.Eng
noncomputable def intsI0 (a b : (Ty.sl tI).den) (x5 : Int) (x26 : Nat) : Cfg := ⟨.ex (pcOf F2 25 [0, 0, 1, 0, 1, 1]) ⟨(tmOf 26 [(0, (.vs tI (a.fst) (a.snd))), (1, (.vs tI (b.fst) (b.snd))), (4, (.bool (false))), (5, (.int .i64 x5)), (6, (.vs tI (a.fst) (a.snd))), (7, (.int .i64 (Int.ofNat a.snd.length))), (8, (.vs tI (b.fst) (b.snd))), (9, (.int .i64 (Int.ofNat b.snd.length))), (10, (.bool (false)))]), (hpOf 0 []), [], [], 26, false⟩, ⟨6, []⟩, [(.lop (pcOf F2 25 [0, 0, 1, 0, 1, 1]) 0 (tmOf 26 [(0, (.vs tI (a.fst) (a.snd))), (1, (.vs tI (b.fst) (b.snd))), (4, (.bool (false))), (5, (.int .i64 (0))), (6, (.vs tI (a.fst) (a.snd))), (7, (.int .i64 (Int.ofNat a.snd.length))), (8, (.vs tI (b.fst) (b.snd))), (9, (.int .i64 (Int.ofNat b.snd.length))), (10, (.bool (false)))]) x26), (.blk 0), (.seq (pcOf F2 25 [1, 1, 1])), (.cal [(.tmp 4)] .top)]⟩
theorem ints_start (a b : (Ty.sl tI).den) : adv F2 (Z2 [25]) 3000 (startC F2 25 [.vs tI a.1 a.2, .vs tI b.1 b.2] 6) = (bif !ieq ↑a.snd.length ↑b.snd.length then some (.done (.bool (false))) else some (.stop (intsI0 a b (0) (1048575)))) := by kernel_rfl
theorem ints_step0 (a b : (Ty.sl tI).den) (x5 : Int) (x26 : Nat) : adv F2 (Z2 [25]) 3000 (intsI0 a b x5 (x26 + 1)) = (bif !ile (↑a.snd.length) x5 then (bif inB x5 a.snd.length then (bif inB x5 b.snd.length then (bif !ieq (a.snd.getD x5.toNat tI.dflt) (b.snd.getD x5.toNat tI.dflt) then some (.done (.bool (false))) else some (.stop (intsI0 a b (wr IntKind.i64 (x5 + 1)) (x26)))) else none) else none) else some (.done (.bool (true)))) := by kernel_rfl
/-! ### Ints -/
noncomputable def intsG (a b : List tI.den) : Nat → Nat → Bool
  | _, 0 => true
  | k, r + 1 => bif ieq (a.getD k tI.dflt) (b.getD k tI.dflt) then intsG a b (k + 1) r else false
noncomputable def intsS (a b : List tI.den) : Bool := bif ieq (a.length : Int) (b.length : Int) then intsG a b 0 a.length else false
theorem ints_ans (a b : (Ty.sl tI).den) (hl : a.2.length < 1048576) (he : a.2.length = b.2.length) : ∀ (r k m : Nat), k + r = a.2.length → r < m → Ans F2 (intsI0 a b k m) (.bool (intsG a.2 b.2 k r))
  | 0, k, m + 1, hk, hm => by
    have h := ints_step0 a b k m
    simp only [ile_ge (show a.2.length ≤ k by omega), Bool.not_true, cond_false] at h
    exact .doneB (Z2_ok _) F2sy h rfl
  | r + 1, k, m + 1, hk, hm => by
    have h := ints_step0 a b k m
    have e : (k : Int).toNat = k := by simp
    simp only [ile_lt (show k < a.2.length by omega), inB_at (show k < a.2.length by omega), inB_at (show k < b.2.length by omega), e, wr_succ (show k < 1048577 by omega), Bool.not_false, cond_true] at h
    rw [intsG]
    cases c1 : ieq (a.2.getD k tI.dflt) (b.2.getD k tI.dflt) with
    | true =>
      simp only [c1, Bool.not_true, cond_true, cond_false] at h ⊢
      exact .stop (Z2_ok _) F2sy h (ints_ans a b hl he r (k + 1) m (by omega) (by omega))
    | false =>
      simp only [c1, Bool.not_false, cond_true, cond_false] at h ⊢
      exact .doneB (Z2_ok _) F2sy h rfl
theorem ints_call (a b : (Ty.sl tI).den) (hl : a.2.length < 1048575) : AnsF F2 25 [.vs tI a.1 a.2, .vs tI b.1 b.2] (.bool (intsS a.2 b.2)) := by
  refine Ans.call (n := 6) (ext_none (by kernel_rfl)) (hasB_spec (by kernel_rfl)) ?_
  have h := ints_start a b
  unfold intsS
  cases c1 : ieq (a.2.length : Int) (b.2.length : Int) with
  | false =>
    simp only [c1, Bool.not_false, cond_true, cond_false] at h ⊢
    exact .doneB (Z2_ok _) F2sy h rfl
  | true =>
    simp only [c1, Bool.not_true, cond_true, cond_false] at h ⊢
    exact .stop (Z2_ok _) F2sy h (ints_ans a b (by omega) (by have := ieq_t c1; omega) a.2.length 0 1048575 (by omega) (by omega))
theorem intsG_self (a : List tI.den) : ∀ (r k : Nat), intsG a a k r = true
  | 0, _ => rfl
  | r + 1, k => by rw [intsG, ieq_self, cond_true]; exact intsG_self a r (k + 1)
theorem intsS_self (a : List tI.den) : intsS a a = true := by unfold intsS; rw [ieq_self, cond_true]; exact intsG_self a _ _
theorem outG_len (B : List Bool) : ∀ (r k : Nat), (outG B k r).length ≤ r
  | 0, _ => Nat.le_refl _
  | r + 1, k => by
    rw [outG]
    have := outG_len B r (k + 1)
    cases B.getD k false with
    | true => rw [cond_true, List.length_cons]; omega
    | false => rw [cond_false]; omega
theorem pntS_len (c : tChart.den) (d m x0 x1 y0 y1 : Int) : (pntS c d m x0 x1 y0 y1).1.length ≤ 32 := by
  unfold pntS boxP
  cases ieq (stdE c d m) 0
  · exact Nat.zero_le _
  cases in8 x0 x1 y0 y1
  · exact Nat.zero_le _
  cases fit4 x0 x1 y0 y1
  · exact Nat.zero_le _
  exact outG_len _ _ _
/-! ### The third level -/
noncomputable def colX : List AV → Option (Bool × AV) := con3 tChart tI tI (fun _ _ _ => true) (fun c d m => tup2 (colS c d m))
noncomputable def seeX : List AV → Option (Bool × AV) := con4 tChart tI tI tP (fun _ _ _ _ => true) (fun c d m v => tup2 (seeS c d m v.1 v.2.1))
noncomputable def pntX : List AV → Option (Bool × AV) := con4 tChart tI tI tBox (fun _ _ _ _ => true) (fun c d m b => tupL (pntS c d m b.1.1 b.1.2.1 b.2.1.1 b.2.1.2.1))
noncomputable def intX : List AV → Option (Bool × AV) := con2 (.sl tI) (.sl tI) (fun a _ => Nat.ble a.2.length 1000) (fun a b => .bool (intsS a.2 b.2))
noncomputable def LC : List Said := [(30, colX), (31, colX), (32, seeX), (33, seeX), (34, pntX), (35, pntX), (25, intX)]
theorem LC_ok : ∀ e ∈ LC, SaidG Tryz.prog F2.glob e :=
  saids_cons (SaidOK.g f2 xf2 nf2 tabs_ok.mix (fun _ _ h => con3_spec (t := tChart) (u := tI) (w := tI) (fun c d m _ => colr_call c d m) h) rfl)
  (saids_cons (SaidOK.g f2 xf2 nf2 tabs_ok.mix (fun _ _ h => con3_spec (t := tChart) (u := tI) (w := tI) (fun c d m _ => rcol_call c d m) h) rfl)
  (saids_cons (SaidOK.g f2 xf2 nf2 tabs_ok.mix (fun _ _ h => con4_spec (t := tChart) (u := tI) (w := tI) (s := tP) (fun c d m v _ => seen_call c d m v) h) rfl)
  (saids_cons (SaidOK.g f2 xf2 nf2 tabs_ok.mix (fun _ _ h => con4_spec (t := tChart) (u := tI) (w := tI) (s := tP) (fun c d m v _ => rsee_call c d m v) h) rfl)
  (saids_cons (SaidOK.g f2 xf2 nf2 tabs_ok.mix (fun _ _ h => con4_spec (t := tChart) (u := tI) (w := tI) (s := tBox) (fun c d m v _ => pnts_call c d m v) h) rfl)
  (saids_cons (SaidOK.g f2 xf2 nf2 tabs_ok.mix (fun _ _ h => con4_spec (t := tChart) (u := tI) (w := tI) (s := tBox) (fun c d m v _ => dirs_call c d m v) h) rfl)
  (saids_cons (SaidOK.g f2 xf2 nf2 tabs_ok.mix (fun _ _ h => con2_spec (t := .sl tI) (u := .sl tI) (fun a b hc => ints_call a b (by have := Nat.le_of_ble_eq_true hc; omega)) h) rfl) saids_nil))))))
noncomputable def F3 : Env := F2.say (under (xOf LC))
theorem f3 : EnvOK Tryz.prog F3 := f2.say _
theorem nf3 : NameOK F3 := nf2.say _
theorem xf3 : ExtOK Tryz.prog F3 := xf2.sayL LC_ok
theorem F3sy : F3.sy = true := rfl
noncomputable def Z3 (l : List Nat) : Sy := (Z2 []).on LC l
theorem Z3_ok (l : List Nat) : (Z3 l).ok F3 := Sy.on_ok (Z2_ok _)
end Go.Proofs.YtffnpkbopjjdaaaGreatDoor

/-
  LOOPS, told by their heads.
-/
set_option maxRecDepth 100000
namespace Go.Proofs.YtffnpkbopjjdaaaGreatDoor
open Go Go.Eng
theorem vali_start (c : tChart.den) : adv F3 (Z3 []) 3000 (startC F3 43 [tChart.av c] 6) = some (.done (.bool (ieq (chkS c).snd.snd 0))) := by kernel_rfl
theorem rbox_start (b : tBox.den) : adv F3 (Z3 []) 3000 (startC F3 56 [tBox.av b, .int .i64 (-30000), .int .i64 30000] 6) = (bif ile (-30000) b.fst.fst then (bif !ile b.fst.fst 30000 then some (.done (.int .i64 (7))) else (bif ile (-30000) b.fst.snd.fst then (bif !ile b.fst.snd.fst 30000 then some (.done (.int .i64 (7))) else (bif !ile b.fst.fst b.fst.snd.fst then (bif ile (-30000) b.snd.fst.fst then (bif !ile b.snd.fst.fst 30000 then some (.done (.int .i64 (7))) else (bif ile (-30000) b.snd.fst.snd.fst then (bif !ile b.snd.fst.snd.fst 30000 then some (.done (.int .i64 (7))) else (bif !ile b.snd.fst.fst b.snd.fst.snd.fst then some (.done (.int .i64 (2))) else some (.done (.int .i64 (2))))) else some (.done (.int .i64 (7))))) else some (.done (.int .i64 (7)))) else (bif ile (-30000) b.snd.fst.fst then (bif !ile b.snd.fst.fst 30000 then some (.done (.int .i64 (7))) else (bif ile (-30000) b.snd.fst.snd.fst then (bif !ile b.snd.fst.snd.fst 30000 then some (.done (.int .i64 (7))) else (bif !ile b.snd.fst.fst b.snd.fst.snd.fst then some (.done (.int .i64 (2))) else (bif !ile (wr IntKind.i64 (b.fst.snd.fst - b.fst.fst)) 40 then some (.done (.int .i64 (2))) else (bif !ile (wr IntKind.i64 (b.snd.fst.snd.fst - b.snd.fst.fst)) 40 then some (.done (.int .i64 (2))) else some (.done (.int .i64 (0))))))) else some (.done (.int .i64 (7))))) else some (.done (.int .i64 (7)))))) else some (.done (.int .i64 (7))))) else some (.done (.int .i64 (7)))) := by kernel_rfl
noncomputable def haslI0 (a : (Ty.sl tI).den) (n : Int) (x4 : Int) (x10 : Nat) : Cfg := ⟨.ex (pcOf F3 48 [0, 0, 1, 0, 1]) ⟨(tmOf 18 [(0, (.vs tI (a.fst) (a.snd))), (1, (.int .i64 (n))), (4, (.bool (false))), (5, (.int .i64 x4))]), (hpOf 0 []), [], [], 18, false⟩, ⟨6, []⟩, [(.lop (pcOf F3 48 [0, 0, 1, 0, 1]) 0 (tmOf 18 [(0, (.vs tI (a.fst) (a.snd))), (1, (.int .i64 (n))), (4, (.bool (false))), (5, (.int .i64 (0)))]) x10), (.blk 0), (.seq (pcOf F3 48 [1, 1])), (.cal [(.tmp 4)] .top)]⟩
theorem hasl_start (a : (Ty.sl tI).den) (n : Int) : adv F3 (Z3 [48]) 3000 (startC F3 48 [.vs tI a.1 a.2, .int .i64 n] 6) = some (.stop (haslI0 a n (0) (1048575))) := by kernel_rfl
theorem hasl_step0 (a : (Ty.sl tI).den) (n : Int) (x4 : Int) (x10 : Nat) : adv F3 (Z3 [48]) 3000 (haslI0 a n x4 (x10 + 1)) = (bif !ile (↑a.snd.length) x4 then (bif inB x4 a.snd.length then (bif ieq (a.snd.getD x4.toNat tI.dflt) n then some (.done (.bool (true))) else some (.stop (haslI0 a n (wr IntKind.i64 (x4 + 1)) (x10)))) else none) else some (.done (.bool (false)))) := by kernel_rfl
theorem amng_start (lo hi n : Int) : adv F3 (Z3 []) 3000 (startC F3 57 [.agg [.int .i64 lo, .int .i64 hi], .int .i64 n] 6) = (bif ieq (wr IntKind.i64 (wr IntKind.i64 (hi - lo) + 1)) 0 then none else some (.done (.int .i64 (wr IntKind.i64 (lo + n.tmod (wr IntKind.i64 (wr IntKind.i64 (hi - lo) + 1))))))) := by kernel_rfl
/-! ### Lists of numbers; the error of a box -/
noncomputable def hasS : List tI.den → Int → Bool
  | [], _ => false
  | x :: l, n => bif ieq x n then true else hasS l n
theorem hasl_ans (a : (Ty.sl tI).den) (n : Int) (hl : a.2.length < 1048576) : ∀ (r k m : Nat), k + r = a.2.length → r < m → Ans F3 (haslI0 a n k m) (.bool (hasS (a.2.drop k) n))
  | 0, k, m + 1, hk, hm => by
    have h := hasl_step0 a n k m
    simp only [ile_ge (show a.2.length ≤ k by omega), Bool.not_true, cond_false] at h
    rw [List.drop_eq_nil_of_le (by omega)]
    exact .doneB (Z3_ok _) F3sy h rfl
  | r + 1, k, m + 1, hk, hm => by
    have h := hasl_step0 a n k m
    have hlt : k < a.2.length := by omega
    simp only [ile_lt hlt, inB_at hlt, getD_at hlt, wr_succ (show k < 1048577 by omega), Bool.not_false, cond_true] at h
    rw [List.drop_eq_getElem_cons hlt, hasS]
    cases e : ieq (a.2[k]) n with
    | true => simp only [e, cond_true] at h ⊢; exact .doneB (Z3_ok _) F3sy h rfl
    | false => simp only [e, cond_false] at h ⊢; exact .stop (Z3_ok _) F3sy h (hasl_ans a n hl r (k + 1) m (by omega) (by omega))
theorem hasl_call (a : (Ty.sl tI).den) (n : Int) (hl : a.2.length < 1048575) : AnsF F3 48 [.vs tI a.1 a.2, .int .i64 n] (.bool (hasS a.2 n)) :=
  Ans.call (n := 6) (ext_none (by kernel_rfl)) (hasB_spec (by kernel_rfl)) (.stop (Z3_ok _) F3sy (hasl_start a n) (hasl_ans a n (by omega) a.2.length 0 1048575 (by omega) (by omega)))
theorem vali_call (c : tChart.den) : AnsF F3 43 [tChart.av c] (.bool (ieq (chkS c).2.2 0)) :=
  Ans.call (n := 6) (ext_none (by kernel_rfl)) (hasB_spec (by kernel_rfl)) (.doneB (Z3_ok _) F3sy (vali_start c) rfl)
noncomputable def boxE (x0 x1 y0 y1 : Int) : Int := bif in8 x0 x1 y0 y1 then (bif fit4 x0 x1 y0 y1 then 0 else 2) else 7
theorem rbox_call (bx : tBox.den) : AnsF F3 56 [tBox.av bx, .int .i64 (-30000), .int .i64 30000] (.int .i64 (boxE bx.1.1 bx.1.2.1 bx.2.1.1 bx.2.1.2.1)) := by
  refine Ans.call (n := 6) (ext_none (by kernel_rfl)) (hasB_spec (by kernel_rfl)) ?_
  have h := rbox_start bx
  obtain ⟨x0, hx0⟩ : ∃ x : Int, bx.1.1 = x := ⟨_, rfl⟩
  obtain ⟨x1, hx1⟩ : ∃ x : Int, bx.1.2.1 = x := ⟨_, rfl⟩
  obtain ⟨y0, hy0⟩ : ∃ x : Int, bx.2.1.1 = x := ⟨_, rfl⟩
  obtain ⟨y1, hy1⟩ : ∃ x : Int, bx.2.1.2.1 = x := ⟨_, rfl⟩
  simp only [hx0, hx1, hy0, hy1] at h ⊢
  unfold boxE in8
  cases d1 : ile (-30000) x0 <;> cases d2 : ile x0 30000 <;>
    try (simp only [d1, d2, Bool.not_false, Bool.not_true, Bool.and_self, Bool.and_true, Bool.and_false, Bool.false_and, Bool.true_and, cond_true, cond_false] at h ⊢; exact .doneI (Z3_ok _) F3sy h rfl)
  cases d3 : ile (-30000) x1 <;> cases d4 : ile x1 30000 <;>
    try (simp only [d1, d2, d3, d4, Bool.not_false, Bool.not_true, Bool.and_self, Bool.and_true, Bool.and_false, Bool.false_and, Bool.true_and, cond_true, cond_false] at h ⊢; exact .doneI (Z3_ok _) F3sy h rfl)
  cases d5 : ile (-30000) y0 <;> cases d6 : ile y0 30000 <;>
    try (simp only [d1, d2, d3, d4, d5, d6, Bool.not_false, Bool.not_true, Bool.and_self, Bool.and_true, Bool.and_false, Bool.false_and, Bool.true_and, cond_true, cond_false] at h ⊢; cases cx : ile x0 x1 <;> (simp only [cx, Bool.not_false, Bool.not_true, cond_true, cond_false] at h; exact .doneI (Z3_ok _) F3sy h rfl))
  cases d7 : ile (-30000) y1 <;> cases d8 : ile y1 30000 <;>
    try (simp only [d1, d2, d3, d4, d5, d6, d7, d8, Bool.not_false, Bool.not_true, Bool.and_self, Bool.and_true, Bool.and_false, Bool.false_and, Bool.true_and, cond_true, cond_false] at h ⊢; cases cx : ile x0 x1 <;> (simp only [cx, Bool.not_false, Bool.not_true, cond_true, cond_false] at h; exact .doneI (Z3_ok _) F3sy h rfl))
  have h8 : in8 x0 x1 y0 y1 = true := by unfold in8; rw [d1, d2, d3, d4, d5, d6, d7, d8]; rfl
  rw [in8_iff] at h8
  have w1 : wr .i64 (x1 - x0) = x1 - x0 := wr_in (by omega) (by omega)
  have w2 : wr .i64 (y1 - y0) = y1 - y0 := wr_in (by omega) (by omega)
  unfold fit4
  cases cx : ile x0 x1 <;> cases cy : ile y0 y1 <;> cases ex : ile (x1 - x0) 40 <;> cases ey : ile (y1 - y0) 40 <;>
    (simp only [d1, d2, d3, d4, d5, d6, d7, d8, w1, w2, cx, cy, ex, ey, Bool.not_false, Bool.not_true, Bool.and_self, Bool.and_true, Bool.and_false, Bool.false_and, Bool.true_and, cond_true, cond_false] at h ⊢; exact .doneI (Z3_ok _) F3sy h rfl)
/-- A number of a span. -/
noncomputable def amS (lo hi n : Int) : Int := lo + n % (hi - lo + 1)
noncomputable def amC (lo hi n : Int) : Bool := ile (-100000) lo && ile lo hi && ile hi 100000 && (ile 0 n && ile n 100000)
theorem amC_iff {lo hi n : Int} : amC lo hi n = true ↔ ((-100000 ≤ lo ∧ lo ≤ hi) ∧ hi ≤ 100000) ∧ 0 ≤ n ∧ n ≤ 100000 := by
  simp only [amC, Bool.and_eq_true, ile_iff, decide_eq_true_eq]
theorem amS_in {lo hi n : Int} (h : lo ≤ hi) : lo ≤ amS lo hi n ∧ amS lo hi n ≤ hi := by
  have h1 := Int.emod_nonneg n (show hi - lo + 1 ≠ 0 by omega)
  have h2 := Int.emod_lt_of_pos n (show 0 < hi - lo + 1 by omega)
  unfold amS
  omega
theorem amng_call (s : tP.den) (n : Int) (hc : amC s.1 s.2.1 n = true) : AnsF F3 57 [tP.av s, .int .i64 n] (.int .i64 (amS s.1 s.2.1 n)) := by
  refine Ans.call (n := 6) (ext_none (by kernel_rfl)) (hasB_spec (by kernel_rfl)) ?_
  obtain ⟨lo, hlo⟩ : ∃ x : Int, s.1 = x := ⟨_, rfl⟩
  obtain ⟨hi, hhi⟩ : ∃ x : Int, s.2.1 = x := ⟨_, rfl⟩
  have h := amng_start s.1 s.2.1 n
  rw [hlo, hhi] at hc ⊢
  rw [hlo, hhi] at h
  rw [amC_iff] at hc
  have e1 : wr .i64 (wr .i64 (hi - lo) + 1) = hi - lo + 1 := by rw [wr_in (n := hi - lo) (by omega) (by omega), wr_in (by omega) (by omega)]
  have e0 : ieq (hi - lo + 1) 0 = false := by rw [ieq_iff]; simp; omega
  have e2 : n.tmod (hi - lo + 1) = n % (hi - lo + 1) := Int.tmod_eq_emod_of_nonneg (by omega)
  have h1 := Int.emod_nonneg n (show hi - lo + 1 ≠ 0 by omega)
  have h2 := Int.emod_lt_of_pos n (show 0 < hi - lo + 1 by omega)
  simp only [e1, e0, e2, cond_false] at h
  rw [wr_in (by omega) (by omega)] at h
  subst hlo; subst hhi
  exact .doneI (S := Z3 []) (Z3_ok _) F3sy (n := 3000) h rfl
noncomputable def LD : List Said := [(43, con1 tChart (fun _ => true) (fun c => .bool (ieq (chkS c).2.2 0))), (56, con3 tBox tI tI (fun _ l h => ieq l (-30000) && ieq h 30000) (fun b _ _ => .int .i64 (boxE b.1.1 b.1.2.1 b.2.1.1 b.2.1.2.1))),
  (48, con2 (.sl tI) tI (fun a _ => Nat.ble a.2.length 1000) (fun a n => .bool (hasS a.2 n))), (57, con2 tP tI (fun s n => amC s.1 s.2.1 n) (fun s n => .int .i64 (amS s.1 s.2.1 n)))]
theorem LD_ok : ∀ e ∈ LD, SaidG Tryz.prog F3.glob e :=
  saids_cons (SaidOK.g f3 xf3 nf3 tabs_ok.mix (fun _ _ h => con1_spec (t := tChart) (fun c _ => vali_call c) h) rfl)
  (saids_cons (SaidOK.g f3 xf3 nf3 tabs_ok.mix (fun _ _ h => con3_spec (t := tBox) (u := tI) (w := tI) (fun b l r hc => by
    rw [Bool.and_eq_true] at hc
    have e1 := ieq_t hc.1
    have e2 := ieq_t hc.2
    subst e1; subst e2
    exact rbox_call b) h) rfl)
  (saids_cons (SaidOK.g f3 xf3 nf3 tabs_ok.mix (fun _ _ h => con2_spec (t := .sl tI) (u := tI) (fun a n hc => hasl_call a n (by have := Nat.le_of_ble_eq_true hc; omega)) h) rfl)
  (saids_cons (SaidOK.g f3 xf3 nf3 tabs_ok.mix (fun _ _ h => con2_spec (t := tP) (u := tI) (fun s n hc => amng_call s n hc) h) rfl) saids_nil)))
noncomputable def F5 : Env := F3.say (under (xOf LD))
theorem f5 : EnvOK Tryz.prog F5 := f3.say _
theorem nf5 : NameOK F5 := nf3.say _
theorem xf5 : ExtOK Tryz.prog F5 := xf3.sayL LD_ok
theorem F5sy : F5.sy = true := rfl
noncomputable def Z5 (l : List Nat) : Sy := (Z3 []).on LD l
theorem Z5_ok (l : List Nat) : (Z5 l).ok F5 := Sy.on_ok (Z3_ok _)
end Go.Proofs.YtffnpkbopjjdaaaGreatDoor

/-
  LOOPS, told by their heads.
-/
set_option maxRecDepth 100000
namespace Go.Proofs.YtffnpkbopjjdaaaGreatDoor
open Go Go.Eng
theorem lefO_start (a b : tP.den) : adv E0 (hdOf []) 3000 (startC E0 109 [tP.av a, tP.av b] 3) = some (.done (.int .i64 (wr IntKind.i64 (wr IntKind.i64 (a.fst * b.snd.fst) - wr IntKind.i64 (a.snd.fst * b.fst))))) := by kernel_rfl
theorem ahea_start (a b : tP.den) : adv E0 (hdOf []) 3000 (startC E0 144 [tP.av a, tP.av b] 3) = some (.done (.int .i64 (wr IntKind.i64 (wr IntKind.i64 (a.fst * b.fst) + wr IntKind.i64 (a.snd.fst * b.snd.fst))))) := by kernel_rfl
theorem squa_start (a : tP.den) : adv E0 (hdOf []) 3000 (startC E0 145 [tP.av a] 3) = some (.done (.int .i64 (wr IntKind.i64 (wr IntKind.i64 (a.fst * a.fst) + wr IntKind.i64 (a.snd.fst * a.snd.fst))))) := by kernel_rfl

noncomputable def vecS (a b : tP.den) : AV := .agg [.int .i64 (wr .i64 (b.1 - a.1)), .int .i64 (wr .i64 (b.2.1 - a.2.1))]
noncomputable def lefS (a b : tP.den) : AV := .int .i64 (wr .i64 (wr .i64 (a.1 * b.2.1) - wr .i64 (a.2.1 * b.1)))
noncomputable def aheS (a b : tP.den) : AV := .int .i64 (wr .i64 (wr .i64 (a.1 * b.1) + wr .i64 (a.2.1 * b.2.1)))
theorem vec_call (a b : tP.den) : AnsF E0 83 [tP.av a, tP.av b] (vecS a b) :=
  Ans.call (n := 3) (E0ext _ _ (by kernel_rfl)) (hasB_spec (by kernel_rfl)) (.done (hdOf_ok _) E0sy (vecTo_start a b) rfl)
theorem lef_call (a b : tP.den) : AnsF E0 109 [tP.av a, tP.av b] (lefS a b) :=
  Ans.call (n := 3) (E0ext _ _ (by kernel_rfl)) (hasB_spec (by kernel_rfl)) (.doneI (hdOf_ok _) E0sy (lefO_start a b) rfl)
theorem ahe_call (a b : tP.den) : AnsF E0 144 [tP.av a, tP.av b] (aheS a b) :=
  Ans.call (n := 3) (E0ext _ _ (by kernel_rfl)) (hasB_spec (by kernel_rfl)) (.doneI (hdOf_ok _) E0sy (ahea_start a b) rfl)
theorem squ_call (a : tP.den) : AnsF E0 145 [tP.av a] (aheS a a) :=
  Ans.call (n := 3) (E0ext _ _ (by kernel_rfl)) (hasB_spec (by kernel_rfl)) (.doneI (hdOf_ok _) E0sy (squa_start a) rfl)
noncomputable def XA (f : Nat) (args : List AV) : Option (Bool × AV) :=
  match Nat.beq f 83 with
  | true => con2 tP tP (fun _ _ => true) vecS args
  | false => match Nat.beq f 109 with
  | true => con2 tP tP (fun _ _ => true) lefS args
  | false => match Nat.beq f 144 with
  | true => con2 tP tP (fun _ _ => true) aheS args
  | false => match Nat.beq f 145 with
  | true => con1 tP (fun _ => true) (fun a => aheS a a) args
  | false => none
theorem XA_con : Con E0 (under XA) := by
  intro f args v h
  rw [under_iff] at h
  unfold XA at h
  split at h
  · rename_i e; obtain rfl := Nat.eq_of_beq_eq_true e
    exact con2_spec (t := tP) (u := tP) (fun a b _ => vec_call a b) h
  split at h
  · rename_i e; obtain rfl := Nat.eq_of_beq_eq_true e
    exact con2_spec (t := tP) (u := tP) (fun a b _ => lef_call a b) h
  split at h
  · rename_i e; obtain rfl := Nat.eq_of_beq_eq_true e
    exact con2_spec (t := tP) (u := tP) (fun a b _ => ahe_call a b) h
  split at h
  · rename_i e; obtain rfl := Nat.eq_of_beq_eq_true e
    exact con1_spec (t := tP) (fun a _ => squ_call a) h
  · cases h
/-- The tables, with these said ahead. -/
noncomputable def EA : Env := { T0.env with ext := (E0.say (under XA)).ext }
theorem eA : EnvOK Tryz.prog EA := by
  have h := tabs_ok.env
  refine ⟨fun t k ht => ?_, h.zero, h.fn, h.eqok, h.meth⟩
  obtain ⟨h1, h2⟩ := h.ty t k ht
  refine ⟨h1, ?_⟩
  cases k <;> exact h2
theorem nA : NameOK EA := tabs_ok.name
theorem xA : ExtOK Tryz.prog EA := ExtOK.sayG e0 x0 n0 tabs_ok.mix XA_con
end Go.Proofs.YtffnpkbopjjdaaaGreatDoor

/-
  THE CALLS that are said ahead.
-/
set_option maxRecDepth 100000
namespace Go.Proofs.YtffnpkbopjjdaaaGreatDoor
open Go Go.Eng
noncomputable def c0 : Ent := ⟨23, [(.agg [(.sl 10 0 2 2 4), (.sl 21 0 2 2 6)]), (.agg [(.int .i64 (150)), (.int .i64 (50))])], 23, [(7, (.cells false [(.int .i64 (0)), (.int .i64 (1)), (.int .i64 (50)), (.int .i64 (2))])), (9, (.cells false [(.int .i64 (10)), (.int .i64 (3)), (.int .i64 (90)), (.int .i64 (0))])), (10, (.cells false [(.str [99, 104, 117, 114, 99, 104]), (.int .i64 (3000)), (.int .i64 (4000)), (.sl 7 0 2 2 2), (.str [109, 105, 108, 108]), (.int .i64 (-2000)), (.int .i64 (0)), (.sl 9 0 2 2 2)])), (15, (.cells false [(.int .i64 (100)), (.int .i64 (0)), (.int .i64 (200)), (.int .i64 (0)), (.int .i64 (200)), (.int .i64 (100)), (.int .i64 (100)), (.int .i64 (100))])), (20, (.cells false [(.int .i64 (-300)), (.int .i64 (-300)), (.int .i64 (-100)), (.int .i64 (-400)), (.int .i64 (-200)), (.int .i64 (-200))])), (21, (.cells false [(.str [107, 110, 111, 108, 108]), (.sl 15 0 4 4 2), (.int .i64 (0)), (.int .i64 (10)), (.int .i64 (-5)), (.int .i64 (5)), (.str [115, 112, 105, 116]), (.sl 20 0 3 3 2), (.int .i64 (0)), (.int .i64 (0)), (.int .i64 (0)), (.int .i64 (0))]))], (.tup [(.sl 451 0 1 1 1), (.sl 453 0 1 1 1), (.int .i64 (0))]), [(451, (.cells false [(.int .i64 (0))])), (453, (.cells false [(.int .i64 (0))]))], 481⟩
noncomputable def c1 : Ent := ⟨23, [(.agg [(.sl 486 0 2 2 4), (.sl 497 0 2 2 6)]), (.agg [(.int .i64 (205)), (.int .i64 (50))])], 499, [(483, (.cells false [(.int .i64 (0)), (.int .i64 (1)), (.int .i64 (50)), (.int .i64 (2))])), (485, (.cells false [(.int .i64 (10)), (.int .i64 (3)), (.int .i64 (90)), (.int .i64 (0))])), (486, (.cells false [(.str [99, 104, 117, 114, 99, 104]), (.int .i64 (3000)), (.int .i64 (4000)), (.sl 483 0 2 2 2), (.str [109, 105, 108, 108]), (.int .i64 (-2000)), (.int .i64 (0)), (.sl 485 0 2 2 2)])), (491, (.cells false [(.int .i64 (100)), (.int .i64 (0)), (.int .i64 (200)), (.int .i64 (0)), (.int .i64 (200)), (.int .i64 (100)), (.int .i64 (100)), (.int .i64 (100))])), (496, (.cells false [(.int .i64 (-300)), (.int .i64 (-300)), (.int .i64 (-100)), (.int .i64 (-400)), (.int .i64 (-200)), (.int .i64 (-200))])), (497, (.cells false [(.str [107, 110, 111, 108, 108]), (.sl 491 0 4 4 2), (.int .i64 (0)), (.int .i64 (10)), (.int .i64 (-5)), (.int .i64 (5)), (.str [115, 112, 105, 116]), (.sl 496 0 3 3 2), (.int .i64 (0)), (.int .i64 (0)), (.int .i64 (0)), (.int .i64 (0))]))], (.tup [.nils, (.sl 927 0 1 1 1), (.int .i64 (0))]), [(927, (.cells false [(.int .i64 (0))]))], 955⟩
noncomputable def c2 : Ent := ⟨108, [(.agg [(.str [107, 110, 111, 108, 108]), (.sl 1136 0 4 4 2), (.int .i64 (0)), (.int .i64 (10)), (.int .i64 (-5)), (.int .i64 (5)), (.int .i64 (0)), (.int .i64 (0))]), (.int .i64 (100))], 1274, [(1136, (.cells false [(.int .i64 (100)), (.int .i64 (0)), (.int .i64 (200)), (.int .i64 (0)), (.int .i64 (200)), (.int .i64 (100)), (.int .i64 (100)), (.int .i64 (100))]))], (.tup [(.agg [(.int .i64 (0)), (.int .i64 (0))]), (.bool false)]), [], 6682⟩
noncomputable def c3 : Ent := ⟨108, [(.agg [(.str [107, 110, 111, 108, 108]), (.sl 6738 0 4 4 2), (.int .i64 (0)), (.int .i64 (10)), (.int .i64 (-5)), (.int .i64 (5)), (.int .i64 (0)), (.int .i64 (0))]), (.int .i64 (79))], 7004, [(6738, (.cells false [(.int .i64 (100)), (.int .i64 (0)), (.int .i64 (200)), (.int .i64 (0)), (.int .i64 (200)), (.int .i64 (100)), (.int .i64 (100)), (.int .i64 (100))]))], (.tup [(.agg [(.int .i64 (0)), (.int .i64 (0))]), (.bool false)]), [], 12412⟩
noncomputable def c4 : Ent := ⟨108, [(.agg [(.str [107, 110, 111, 108, 108]), (.sl 6738 0 4 4 2), (.int .i64 (0)), (.int .i64 (10)), (.int .i64 (-5)), (.int .i64 (5)), (.int .i64 (0)), (.int .i64 (0))]), (.int .i64 (99))], 12487, [(6738, (.cells false [(.int .i64 (100)), (.int .i64 (0)), (.int .i64 (200)), (.int .i64 (0)), (.int .i64 (200)), (.int .i64 (100)), (.int .i64 (100)), (.int .i64 (100))]))], (.tup [(.agg [(.int .i64 (0)), (.int .i64 (0))]), (.bool false)]), [], 17895⟩
noncomputable def c5 : Ent := ⟨108, [(.agg [(.str [107, 110, 111, 108, 108]), (.sl 6738 0 4 4 2), (.int .i64 (0)), (.int .i64 (10)), (.int .i64 (-5)), (.int .i64 (5)), (.int .i64 (0)), (.int .i64 (0))]), (.int .i64 (100))], 18048, [(6738, (.cells false [(.int .i64 (100)), (.int .i64 (0)), (.int .i64 (200)), (.int .i64 (0)), (.int .i64 (200)), (.int .i64 (100)), (.int .i64 (100)), (.int .i64 (100))]))], (.tup [(.agg [(.int .i64 (0)), (.int .i64 (0))]), (.bool false)]), [], 23456⟩
noncomputable def c6 : Ent := ⟨28, [(.agg [(.sl 6733 0 2 2 4), (.sl 6744 0 2 2 6)]), (.agg [(.int .i64 (0)), (.int .i64 (0))])], 6746, [(6730, (.cells false [(.int .i64 (0)), (.int .i64 (1)), (.int .i64 (50)), (.int .i64 (2))])), (6732, (.cells false [(.int .i64 (10)), (.int .i64 (3)), (.int .i64 (90)), (.int .i64 (0))])), (6733, (.cells false [(.str [99, 104, 117, 114, 99, 104]), (.int .i64 (3000)), (.int .i64 (4000)), (.sl 6730 0 2 2 2), (.str [109, 105, 108, 108]), (.int .i64 (-2000)), (.int .i64 (0)), (.sl 6732 0 2 2 2)])), (6738, (.cells false [(.int .i64 (100)), (.int .i64 (0)), (.int .i64 (200)), (.int .i64 (0)), (.int .i64 (200)), (.int .i64 (100)), (.int .i64 (100)), (.int .i64 (100))])), (6743, (.cells false [(.int .i64 (-300)), (.int .i64 (-300)), (.int .i64 (-100)), (.int .i64 (-400)), (.int .i64 (-200)), (.int .i64 (-200))])), (6744, (.cells false [(.str [107, 110, 111, 108, 108]), (.sl 6738 0 4 4 2), (.int .i64 (0)), (.int .i64 (10)), (.int .i64 (-5)), (.int .i64 (5)), (.str [115, 112, 105, 116]), (.sl 6743 0 3 3 2), (.int .i64 (0)), (.int .i64 (0)), (.int .i64 (0)), (.int .i64 (0))]))], (.tup [(.int .i64 (100)), (.int .i64 (0))]), [], 23502⟩
noncomputable def c7 : Ent := ⟨34, [(.agg [(.sl 23821 0 2 2 4), (.sl 23832 0 2 2 6)]), (.int .i64 (20)), (.int .i64 (1)), (.agg [(.int .i64 (-2010)), (.int .i64 (-1990)), (.int .i64 (0)), (.int .i64 (0))])], 23834, [(23818, (.cells false [(.int .i64 (0)), (.int .i64 (1)), (.int .i64 (50)), (.int .i64 (2))])), (23820, (.cells false [(.int .i64 (10)), (.int .i64 (3)), (.int .i64 (90)), (.int .i64 (0))])), (23821, (.cells false [(.str [99, 104, 117, 114, 99, 104]), (.int .i64 (3000)), (.int .i64 (4000)), (.sl 23818 0 2 2 2), (.str [109, 105, 108, 108]), (.int .i64 (-2000)), (.int .i64 (0)), (.sl 23820 0 2 2 2)])), (23826, (.cells false [(.int .i64 (100)), (.int .i64 (0)), (.int .i64 (200)), (.int .i64 (0)), (.int .i64 (200)), (.int .i64 (100)), (.int .i64 (100)), (.int .i64 (100))])), (23831, (.cells false [(.int .i64 (-300)), (.int .i64 (-300)), (.int .i64 (-100)), (.int .i64 (-400)), (.int .i64 (-200)), (.int .i64 (-200))])), (23832, (.cells false [(.str [107, 110, 111, 108, 108]), (.sl 23826 0 4 4 2), (.int .i64 (0)), (.int .i64 (10)), (.int .i64 (-5)), (.int .i64 (5)), (.str [115, 112, 105, 116]), (.sl 23831 0 3 3 2), (.int .i64 (0)), (.int .i64 (0)), (.int .i64 (0)), (.int .i64 (0))]))], (.tup [(.sl 25739 0 2 2 1), (.int .i64 (0))]), [(25739, (.cells false [(.int .i64 (8)), (.int .i64 (24))]))], 25740⟩
noncomputable def c8 : Ent := ⟨36, [(.agg [(.sl 25745 0 2 2 4), (.sl 25756 0 2 2 6)])], 25757, [(25742, (.cells false [(.int .i64 (0)), (.int .i64 (1)), (.int .i64 (50)), (.int .i64 (2))])), (25744, (.cells false [(.int .i64 (10)), (.int .i64 (3)), (.int .i64 (90)), (.int .i64 (0))])), (25745, (.cells false [(.str [99, 104, 117, 114, 99, 104]), (.int .i64 (3000)), (.int .i64 (4000)), (.sl 25742 0 2 2 2), (.str [109, 105, 108, 108]), (.int .i64 (-2000)), (.int .i64 (0)), (.sl 25744 0 2 2 2)])), (25750, (.cells false [(.int .i64 (100)), (.int .i64 (0)), (.int .i64 (200)), (.int .i64 (0)), (.int .i64 (200)), (.int .i64 (100)), (.int .i64 (100)), (.int .i64 (100))])), (25755, (.cells false [(.int .i64 (-300)), (.int .i64 (-300)), (.int .i64 (-100)), (.int .i64 (-400)), (.int .i64 (-200)), (.int .i64 (-200))])), (25756, (.cells false [(.str [107, 110, 111, 108, 108]), (.sl 25750 0 4 4 2), (.int .i64 (0)), (.int .i64 (10)), (.int .i64 (-5)), (.int .i64 (5)), (.str [115, 112, 105, 116]), (.sl 25755 0 3 3 2), (.int .i64 (0)), (.int .i64 (0)), (.int .i64 (0)), (.int .i64 (0))]))], (.tup [(.str [109, 97, 114, 107, 32, 99, 104, 117, 114, 99, 104, 32, 51, 48, 48, 48, 32, 52, 48, 48, 48, 32, 48, 32, 49, 32, 53, 48, 32, 50, 10, 109, 97, 114, 107, 32, 109, 105, 108, 108, 32, 45, 50, 48, 48, 48, 32, 48, 32, 49, 48, 32, 51, 32, 57, 48, 32, 48, 10, 115, 97, 110, 100, 32, 107, 110, 111, 108, 108, 32, 48, 32, 49, 48, 32, 45, 53, 32, 53, 32, 49, 48, 48, 32, 48, 32, 50, 48, 48, 32, 48, 32, 50, 48, 48, 32, 49, 48, 48, 32, 49, 48, 48, 32, 49, 48, 48, 10, 115, 97, 110, 100, 32, 115, 112, 105, 116, 32, 48, 32, 48, 32, 48, 32, 48, 32, 45, 51, 48, 48, 32, 45, 51, 48, 48, 32, 45, 49, 48, 48, 32, 45, 52, 48, 48, 32, 45, 50, 48, 48, 32, 45, 50, 48, 48, 10]), (.int .i64 (0))]), [], 25939⟩
noncomputable def c9 : Ent := ⟨115, [(.str [109, 97, 114, 107, 32, 99, 104, 117, 114, 99, 104, 32, 51, 48, 48, 48, 32, 52, 48, 48, 48, 32, 48, 32, 49, 32, 53, 48, 32, 50, 10, 109, 97, 114, 107, 32, 109, 105, 108, 108, 32, 45, 50, 48, 48, 48, 32, 48, 32, 49, 48, 32, 51, 32, 57, 48, 32, 48, 10, 115, 97, 110, 100, 32, 107, 110, 111, 108, 108, 32, 48, 32, 49, 48, 32, 45, 53, 32, 53, 32, 49, 48, 48, 32, 48, 32, 50, 48, 48, 32, 48, 32, 50, 48, 48, 32, 49, 48, 48, 32, 49, 48, 48, 32, 49, 48, 48, 10, 115, 97, 110, 100, 32, 115, 112, 105, 116, 32, 48, 32, 48, 32, 48, 32, 48, 32, 45, 51, 48, 48, 32, 45, 51, 48, 48, 32, 45, 49, 48, 48, 32, 45, 52, 48, 48, 32, 45, 50, 48, 48, 32, 45, 50, 48, 48, 10])], 25942, [], (.agg [(.sl 25967 0 2 2 4), (.sl 26004 0 2 2 6)]), [(25955, (.cells false [(.int .i64 (0)), (.int .i64 (1)), (.int .i64 (50)), (.int .i64 (2))])), (25966, (.cells false [(.int .i64 (10)), (.int .i64 (3)), (.int .i64 (90)), (.int .i64 (0))])), (25967, (.cells false [(.str [99, 104, 117, 114, 99, 104]), (.int .i64 (3000)), (.int .i64 (4000)), (.sl 25955 0 2 2 2), (.str [109, 105, 108, 108]), (.int .i64 (-2000)), (.int .i64 (0)), (.sl 25966 0 2 2 2)])), (25986, (.cells false [(.int .i64 (100)), (.int .i64 (0)), (.int .i64 (200)), (.int .i64 (0)), (.int .i64 (200)), (.int .i64 (100)), (.int .i64 (100)), (.int .i64 (100))])), (26003, (.cells false [(.int .i64 (-300)), (.int .i64 (-300)), (.int .i64 (-100)), (.int .i64 (-400)), (.int .i64 (-200)), (.int .i64 (-200))])), (26004, (.cells false [(.str [107, 110, 111, 108, 108]), (.sl 25986 0 4 4 2), (.int .i64 (0)), (.int .i64 (10)), (.int .i64 (-5)), (.int .i64 (5)), (.str [115, 112, 105, 116]), (.sl 26003 0 3 3 2), (.int .i64 (0)), (.int .i64 (0)), (.int .i64 (0)), (.int .i64 (0))]))], 26005⟩
noncomputable def c10 : Ent := ⟨36, [(.agg [(.sl 25967 0 2 2 4), (.sl 26004 0 2 2 6)])], 26006, [(25955, (.cells false [(.int .i64 (0)), (.int .i64 (1)), (.int .i64 (50)), (.int .i64 (2))])), (25966, (.cells false [(.int .i64 (10)), (.int .i64 (3)), (.int .i64 (90)), (.int .i64 (0))])), (25967, (.cells false [(.str [99, 104, 117, 114, 99, 104]), (.int .i64 (3000)), (.int .i64 (4000)), (.sl 25955 0 2 2 2), (.str [109, 105, 108, 108]), (.int .i64 (-2000)), (.int .i64 (0)), (.sl 25966 0 2 2 2)])), (25986, (.cells false [(.int .i64 (100)), (.int .i64 (0)), (.int .i64 (200)), (.int .i64 (0)), (.int .i64 (200)), (.int .i64 (100)), (.int .i64 (100)), (.int .i64 (100))])), (26003, (.cells false [(.int .i64 (-300)), (.int .i64 (-300)), (.int .i64 (-100)), (.int .i64 (-400)), (.int .i64 (-200)), (.int .i64 (-200))])), (26004, (.cells false [(.str [107, 110, 111, 108, 108]), (.sl 25986 0 4 4 2), (.int .i64 (0)), (.int .i64 (10)), (.int .i64 (-5)), (.int .i64 (5)), (.str [115, 112, 105, 116]), (.sl 26003 0 3 3 2), (.int .i64 (0)), (.int .i64 (0)), (.int .i64 (0)), (.int .i64 (0))]))], (.tup [(.str [109, 97, 114, 107, 32, 99, 104, 117, 114, 99, 104, 32, 51, 48, 48, 48, 32, 52, 48, 48, 48, 32, 48, 32, 49, 32, 53, 48, 32, 50, 10, 109, 97, 114, 107, 32, 109, 105, 108, 108, 32, 45, 50, 48, 48, 48, 32, 48, 32, 49, 48, 32, 51, 32, 57, 48, 32, 48, 10, 115, 97, 110, 100, 32, 107, 110, 111, 108, 108, 32, 48, 32, 49, 48, 32, 45, 53, 32, 53, 32, 49, 48, 48, 32, 48, 32, 50, 48, 48, 32, 48, 32, 50, 48, 48, 32, 49, 48, 48, 32, 49, 48, 48, 32, 49, 48, 48, 10, 115, 97, 110, 100, 32, 115, 112, 105, 116, 32, 48, 32, 48, 32, 48, 32, 48, 32, 45, 51, 48, 48, 32, 45, 51, 48, 48, 32, 45, 49, 48, 48, 32, 45, 52, 48, 48, 32, 45, 50, 48, 48, 32, 45, 50, 48, 48, 10]), (.int .i64 (0))]), [], 26188⟩
end Go.Proofs.YtffnpkbopjjdaaaGreatDoor

